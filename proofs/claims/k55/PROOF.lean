import PyProof.Rows.All
import Wide.All
import OpenK.AllK
import Wide.FinOn
import HandS.ForMost
import HandS.ForExc
import HandS.Flow
import HandS.TupAny
import HandS.Deep
import HandS.IsInst
import HandS.Walk
import HandS.Steps
import HandS.Lambda
import HandS.StrMore
import HandS.Style
import HandS.AnyAll
import KE.KeyNested
import KE.KDictKeyed
import KE.KDictWalk
import HandS.ExcInit
import HandS.ExcField
import HandS.TryMany
import HandS.CallSlots
import KE.LtData
import HandS.Replace
import PyProof.Draws
import HandS.Conv
import HandS.RevTup
import HandS.Rev
import PyProof.JoinWalk
import HandS.Zip
import HandS.More
import HandS.EndTab
import HandS.WordsExc
import HandS.Defaults
import HandS.ExcCtx
import HandS.HotCalls
import KE.KExcIs
import HandS.ExcIs
import HandS.Strs
import HandS.Star
import KE.KIntText
import KE.SortKeyHeap
import HandS.SortKw
import HandS.DictComp
import HandS.HeadHook3
import KE.DataMinKey
import HandS.Nested
import HandS.Property
import KE.KDictPairs
import KE.DataEq
import HandS.RaiseMore
import KE.KDictZip
import KE.KDictDisplayH
import KE.GoesZip
import KE.GoesMore
import KE.KDictCopyH
import KE.KMinKey
import HandS.TupLen
import HandS.TryOnly
import PySem.Challenge.RW_talkalike_k55_kinds_of_pairs
set_option Elab.async false
set_option linter.all false
set_option maxRecDepth 100000
set_option maxHeartbeats 4000000
namespace Dw
noncomputable section
open PySem PySem.Spec PyProof.Rows L2
/-- a test that is not to be reckoned out -/
noncomputable def okP (p : Prop) : Bool := @decide p (Classical.propDecidable p)
theorem okP_iff {p : Prop} : okP p = true ↔ p := @decide_eq_true_iff p (Classical.propDecidable p)
/-- where the classes of one's own stand; the world -/
class Glo where
  C : Str → Addr → Prop
  w : World
  /-- classes of one's own that are no exceptions -/
  S : Str → Addr → Prop
variable [Glo]
inductive D where
  | non | bl (b : Bool) | int (i : Int) | str (x : List Nat) | lst (xs : List D) | tup (xs : List D)
  /-- a dict, its keys and values in order | an instance of the class c, its attributes -/
  | dct (ks vs : List D) | ins (c : Str) (ns : List Str) (xs : List D)
  /-- a dict whose keys are tuples -/
  | dcu (ks vs : List D)
  deriving Inhabited
def mk (x : List Nat) : Str := ⟨x.toArray⟩
theorem mk_len (x : List Nat) : (mk x).length = x.length := by simp [mk, Str.length]
theorem mk_of (s : Str) : mk s.cps.toList = s := by cases s; simp [mk]
theorem mk_app (x y : List Nat) : mk x ++ mk y = mk (x ++ y) := by
  show Str.append _ _ = _
  simp [Str.append, mk]
theorem mk_inj {x y : List Nat} (h : mk x = mk y) : x = y := by
  have := congrArg (fun s : Str => s.cps.toList) h
  simpa [mk] using this
/-- a key of a dict, as data -/
def kD : Key → D
  | .inl i => .int i
  | .inr x => .str x.cps.toList
theorem kD_inj : ∀ {a b : Key}, kD a = kD b → a = b
  | .inl i, .inl j, h => by
    have : i = j := D.int.inj h
    rw [this]
  | .inl _, .inr _, h => by cases h
  | .inr _, .inl _, h => by cases h
  | .inr x, .inr y, h => by
    have h : x.cps.toList = y.cps.toList := D.str.inj h
    have : x = y := by rw [← mk_of x, ← mk_of y, h]
    rw [this]
mutual
def nkD : D → Option NestedKey
  | .non => some .none
  | .bl b => some (.num (if b = true then 1 else 0))
  | .int i => some (.num i)
  | .str x => some (.text (mk x))
  | .tup xs => (nkDs xs).map .tup
  | _ => none
def nkDs : List D → Option (List NestedKey)
  | [] => some []
  | x :: xs => (nkD x).bind fun k => (nkDs xs).map fun ks => k :: ks
end
/-- the dict at a, its keys tuples: what is true of its object -/
def dxO (w : World) (a : Addr) (xs : List (NestedKey × Addr × Value)) : HO := .ext fun h => ∃ o es ep, h.get? a = some o ∧ o.ExactDict ∧ o.data = .dict es ep ∧ es.toList = xs.map (fun x => (⟨x.1.hash w, .ref x.2.1, x.2.2⟩ : DictEntry)) ∧ (xs.map (·.1)).Nodup ∧ (∀ x ∈ xs, x.1.depth ≤ 8) ∧ (a == sysModules) = false ∧ xs.length ≤ sizeLine
mutual
inductive Rel (K : PySem.W.Frag) (F : Hp) : V → D → Prop
  | non : Rel K F .non .non
  | bl (b : Bool) : Rel K F (.bl b) (.bl b)
  | int (i : Int) : Rel K F (.int i) (.int i)
  | str (x : List Nat) : Rel K F (.str (mk x)) (.str x)
  | lst {a : Addr} {xs : List V} {ds : List D} : SqL K F a xs → RelAll K F xs ds → Rel K F (.ref a) (.lst ds)
  | tup {a : Addr} {xs : List V} {ds : List D} : SqT K F a xs → RelAll K F xs ds → Rel K F (.ref a) (.tup ds)
  | dct {a : Addr} {kvs : List (Key × V)} {ks vs : List D} : F a = some (.dK kvs) → kvs.map (fun e => kD e.1) = ks → RelAll K F (kvs.map (·.2)) vs → Rel K F (.ref a) (.dct ks vs)
  | ins {a C dx : Addr} {c : Str} {fs : List (Str × V)} {ns : List Str} {xs : List D} : F a = some (.ins C dx fs) → Glo.S c C → fs.map (·.1) = ns → RelAll K F (fs.map (·.2)) xs → Rel K F (.ref a) (.ins c ns xs)
  | dcu {a : Addr} {es : List (NestedKey × Addr × Value)} {us : List V} {ks vs : List D} : F a = some (dxO Glo.w a es) → ks.map nkD = es.map (fun x => some x.1) → RelAll K F (es.map fun x => .ref x.2.1) ks → Vals us (es.map (·.2.2)) → RelAll K F us vs → Rel K F (.ref a) (.dcu ks vs)
inductive RelAll (K : PySem.W.Frag) (F : Hp) : List V → List D → Prop
  | nil : RelAll K F [] []
  | cons {v : V} {vs : List V} {d : D} {ds : List D} : Rel K F v d → RelAll K F vs ds → RelAll K F (v :: vs) (d :: ds)
end
/-- heaps that grow -/
def Ex (H H' : Hp) : Prop := ∀ a o, H a = some o → H' a = some o
theorem Ex.refl (H : Hp) : Ex H H := fun _ _ h => h
theorem Ex.trans {H H1 H2 : Hp} (a : Ex H H1) (b : Ex H1 H2) : Ex H H2 := fun x o h => b x o (a x o h)
theorem Ex.new {H : Hp} {p : Addr} {o : HO} (h : H p = none) : Ex H (upd H p o) := fun a u e => by
  rw [upd_ne (ne_of_none e h)]
  exact e
theorem ex_rd {H H' : Hp} {a : Addr} {u : HO} (e : Ex H H') (h : Rd H a u) : Rd H' a u := by
  rcases h with h | ⟨o, h⟩
  · exact Or.inl (e a _ h)
  · exact Or.inr ⟨o, e a _ h⟩
theorem ex_l {K : PySem.W.Frag} {H H' : Hp} {a : Addr} {xs : List V} (e : Ex H H') (h : SqL K H a xs) : SqL K H' a xs := by
  rcases h with h | h
  · exact Or.inl (ex_rd e h)
  · exact Or.inr h
theorem ex_t {K : PySem.W.Frag} {H H' : Hp} {a : Addr} {xs : List V} (e : Ex H H') (h : SqT K H a xs) : SqT K H' a xs := by
  rcases h with h | h
  · exact Or.inl (ex_rd e h)
  · exact Or.inr h
section
variable {K : PySem.W.Frag} {F F' : Hp}
mutual
theorem Rel.mono (e : Ex F F') : ∀ (d : D) (v : V), Rel K F v d → Rel K F' v d
  | .non, _, h => by cases h; exact .non
  | .bl _, _, h => by cases h; exact .bl _
  | .int _, _, h => by cases h; exact .int _
  | .str _, _, h => by cases h; exact .str _
  | .lst ds, _, h => by
    cases h with
    | lst s r => exact .lst (ex_l e s) (RelAll.mono e ds _ r)
  | .tup ds, _, h => by
    cases h with
    | tup s r => exact .tup (ex_t e s) (RelAll.mono e ds _ r)
  | .dct ks vs, _, h => by
    cases h with
    | dct s k q => exact .dct (e _ _ s) k (RelAll.mono e vs _ q)
  | .ins c ns xs, _, h => by
    cases h with
    | ins s c n r => exact .ins (e _ _ s) c n (RelAll.mono e xs _ r)
  | .dcu ks vs, _, h => by
    cases h with
    | dcu s n k u r => exact .dcu (e _ _ s) n (RelAll.mono e ks _ k) u (RelAll.mono e vs _ r)
theorem RelAll.mono (e : Ex F F') : ∀ (ds : List D) (vs : List V), RelAll K F vs ds → RelAll K F' vs ds
  | [], _, h => by cases h; exact .nil
  | d :: ds, _, h => by
    cases h with
    | cons a b => exact .cons (Rel.mono e d _ a) (RelAll.mono e ds _ b)
end
theorem Rel.up (e : Ex F F') {d : D} {v : V} (h : Rel K F v d) : Rel K F' v d := Rel.mono e d v h
theorem RelAll.up (e : Ex F F') {ds : List D} {vs : List V} (h : RelAll K F vs ds) : RelAll K F' vs ds := RelAll.mono e ds vs h
theorem RelAll.len : ∀ {vs : List V} {ds : List D}, RelAll K F vs ds → vs.length = ds.length
  | _, [], h => by cases h; rfl
  | _, d :: ds, h => by
    cases h with
    | cons a b => simp [RelAll.len b]
theorem RelAll.app : ∀ {vs ws : List V} {ds es : List D}, RelAll K F vs ds → RelAll K F ws es → RelAll K F (vs ++ ws) (ds ++ es)
  | _, _, [], _, h, g => by cases h; exact g
  | _, _, d :: ds, _, h, g => by
    cases h with
    | cons a b => exact .cons a (RelAll.app b g)
theorem RelAll.get : ∀ {vs : List V} {ds : List D} {i : Nat} {v : V}, RelAll K F vs ds → vs[i]? = some v → ∃ d, ds[i]? = some d ∧ Rel K F v d
  | _, [], _, _, h, e => by cases h; simp at e
  | _, d :: ds, i, v, h, e => by
    cases h with
    | cons a b =>
      cases i with
      | zero =>
        simp at e
        subst e
        exact ⟨d, rfl, a⟩
      | succ i =>
        obtain ⟨d', e', r⟩ := RelAll.get (i := i) b (by simpa using e)
        exact ⟨d', by simpa using e', r⟩
theorem RelAll.getD : ∀ {vs : List V} {ds : List D} {i : Nat} {d : D}, RelAll K F vs ds → ds[i]? = some d → ∃ v, vs[i]? = some v ∧ Rel K F v d
  | _, [], _, _, h, e => by simp at e
  | _, d :: ds, i, x, h, e => by
    cases h with
    | cons a b =>
      cases i with
      | zero =>
        simp at e
        subst e
        exact ⟨_, rfl, a⟩
      | succ i =>
        obtain ⟨d', e', r⟩ := RelAll.getD (i := i) b (by simpa using e)
        exact ⟨d', by simpa using e', r⟩
theorem RelAll.take : ∀ {vs : List V} {ds : List D} (n : Nat), RelAll K F vs ds → RelAll K F (vs.take n) (ds.take n)
  | _, _, 0, _ => by simp; exact .nil
  | _, [], n + 1, h => by cases h; simp; exact .nil
  | _, d :: ds, n + 1, h => by
    cases h with
    | cons a b => exact .cons a (RelAll.take n b)
theorem RelAll.drop : ∀ {vs : List V} {ds : List D} (n : Nat), RelAll K F vs ds → RelAll K F (vs.drop n) (ds.drop n)
  | _, _, 0, h => by simpa using h
  | _, [], n + 1, h => by cases h; simp; exact .nil
  | _, d :: ds, n + 1, h => by
    cases h with
    | cons a b => simpa using RelAll.drop n b
theorem RelAll.set : ∀ {vs : List V} {ds : List D} (i : Nat) {v : V} {d : D}, RelAll K F vs ds → Rel K F v d → RelAll K F (vs.set i v) (ds.set i d)
  | _, [], _, _, _, h, _ => by cases h; exact .nil
  | _, d :: ds, 0, _, _, h, r => by
    cases h with
    | cons a b => exact .cons r b
  | _, d :: ds, i + 1, _, _, h, r => by
    cases h with
    | cons a b => exact .cons a (RelAll.set i b r)
theorem RelAll.ints : ∀ (ns : List Int), RelAll K F (ns.map V.int) (ns.map D.int)
  | [] => .nil
  | n :: r => .cons (.int n) (RelAll.ints r)
end
/-- the content of a thing that is one's own -/
inductive C where
  | lst (xs : List D)
  | dct (ks vs : List D)
  | ins (c : Str) (ns : List Str) (xs : List D)
  | dcu (ks vs : List D)
def CellOk (K : PySem.W.Frag) (F : Hp) (p : Addr) (o : HO) : C → Prop
  | .lst ds => ∃ vs, o = .lst vs ∧ RelAll K F vs ds
  | .dct ks vs => ∃ kvs : List (Key × V), o = .dK kvs ∧ kvs.map (fun e => kD e.1) = ks ∧ RelAll K F (kvs.map (·.2)) vs
  | .ins c ns xs => ∃ (C dx : Addr) (fs : List (Str × V)), o = .ins C dx fs ∧ Glo.S c C ∧ fs.map (·.1) = ns ∧ RelAll K F (fs.map (·.2)) xs
  | .dcu ks vs => ∃ (es : List (NestedKey × Addr × Value)) (us : List V), o = dxO Glo.w p es ∧ ks.map nkD = es.map (fun x => some x.1) ∧ RelAll K F (es.map fun x => .ref x.2.1) ks ∧ Vals us (es.map (·.2.2)) ∧ RelAll K F us vs
theorem CellOk.up {K : PySem.W.Frag} {F F' : Hp} {p : Addr} {o : HO} (e : Ex F F') : ∀ {c : C}, CellOk K F p o c → CellOk K F' p o c
  | .lst _, ⟨vs, h, r⟩ => ⟨vs, h, r.up e⟩
  | .dct _ _, ⟨kvs, h, k, q⟩ => ⟨kvs, h, k, q.up e⟩
  | .ins _ _ _, ⟨C, dx, fs, h, c, n, r⟩ => ⟨C, dx, fs, h, c, n, r.up e⟩
  | .dcu _ _, ⟨es, us, h, n, k, u, r⟩ => ⟨es, us, h, n, k.up e, u, r.up e⟩
theorem CellOk.noT {K : PySem.W.Frag} {F : Hp} {p : Addr} {o : HO} : ∀ {c : C}, CellOk K F p o c → ∀ ps, o ≠ .tbl ps
  | .lst _, ⟨vs, h, _⟩, ps, z => by rw [h] at z; cases z
  | .dct _ _, ⟨_, h, _⟩, ps, z => by rw [h] at z; cases z
  | .ins _ _ _, ⟨_, _, _, h, _⟩, ps, z => by rw [h] at z; cases z
  | .dcu _ _, ⟨_, _, h, _⟩, ps, z => by rw [h] at z; cases z
/-- a thing of one's own, as data -/
def cD : C → D
  | .lst xs => .lst xs
  | .dct ks vs => .dct ks vs
  | .ins c ns xs => .ins c ns xs
  | .dcu ks vs => .dcu ks vs
theorem CellOk.rel {K : PySem.W.Frag} {F : Hp} {p : Addr} {o : HO} (e : F p = some o) : ∀ {c : C}, CellOk K F p o c → Rel K F (.ref p) (cD c)
  | .lst _, ⟨vs, h, r⟩ => .lst (.inl (Rd.of (by rw [e, h]))) r
  | .dct _ _, ⟨kvs, h, k, q⟩ => .dct (by rw [e, h]) k q
  | .ins _ _ _, ⟨C, dx, fs, h, c, n, r⟩ => .ins (by rw [e, h]) c n r
  | .dcu _ _, ⟨es, us, h, n, k, u, r⟩ => .dcu (by rw [e, h]) n k u r
/-- an exception: the name of its class, its attributes -/
structure Xn where
  cls : Str
  fs : List (Str × D)
/-- own true: a thing that was handed in, and goes back to the caller -/
inductive SV where
  | un | d (x : D) | own (b : Bool) (c : C)
  /-- the exception that is handled -/
  | xn (e : Xn)
/-- which tables of code stand apart; the exception that is handled -/
class Tabs where
  T : Addr → Prop
  X : Option (Addr × Value × Option Addr)
  L : Addr → Option Str
/-- how an exception's own dict lies in the heap -/
def XnAt (K : PySem.W.Frag) (F : Hp) (e : Xn) (cls : Value) (d : Option Addr) : Prop :=
  ∃ (C : Addr), Glo.C e.cls C ∧ cls = .ref C ∧ ∃ dd vfs, d = some dd ∧ F dd = some (.xd vfs) ∧ vfs.map (·.1) = e.fs.map (·.1) ∧ RelAll K F (vfs.map (·.2)) (e.fs.map (·.2))
theorem XnAt.up {K : PySem.W.Frag} {F F' : Hp} {e : Xn} {cls : Value} {d : Option Addr} (x : Ex F F') : XnAt K F e cls d → XnAt K F' e cls d :=
  fun ⟨C, h1, h2, dd, vfs, h3, h4, h5, h6⟩ => ⟨C, h1, h2, dd, vfs, h3, x _ _ h4, h5, h6.up x⟩
variable [Tabs]
/-- a table of code: where it holds lambdas' code (L), each is a code object that stands -/
def TrOk (F : Hp) (P : Addr) (ps : Array Value) : Prop := TriplesOk ps.toList ∧ ∀ q, Tabs.L P = some q → ∀ (pos : Pos) (cv : Value), codeAmong pos ps.toList = some cv → ∃ c, cv = .ref c ∧ F c = some (LamX.CodeO c q)
theorem TrOk.up {F F' : Hp} {P : Addr} {ps : Array Value} (h : TrOk F P ps) (e : Ex F F') : TrOk F' P ps := ⟨h.1, fun q hq pos cv hc => let ⟨c, h1, h2⟩ := h.2 q hq pos cv hc; ⟨c, h1, e _ _ h2⟩⟩
def TabD (F H : Hp) (P : Addr) : Prop := ∃ ps : Array Value, H P = some (.tbl ps) ∧ TrOk F P ps
theorem TabD.up {F F' H : Hp} {P : Addr} (e : Ex F F') : TabD F H P → TabD F' H P := fun ⟨ps, h1, h2⟩ => ⟨ps, h1, h2.up e⟩
theorem TabD.g {F H : Hp} {P : Addr} : TabD F H P → GxR.TabG H P := fun ⟨ps, h1, h2⟩ => ⟨ps, h1, h2.1⟩
/-- what the caller keeps: things that stand as they are; where the things that were handed in stand -/
structure Fm where
  r : Hp
  t : Nat → Addr
  T : Addr → Prop
def FEx (R R' : Fm) : Prop := Ex R.r R'.r ∧ (R.t, R.T) = (R'.t, R'.T)
theorem FEx.t {R R' : Fm} (e : FEx R R') : R.t = R'.t := congrArg Prod.fst e.2
theorem FEx.T {R R' : Fm} (e : FEx R R') : R.T = R'.T := congrArg Prod.snd e.2
theorem FEx.refl (R : Fm) : FEx R R := ⟨Ex.refl _, rfl⟩
abbrev Sl := List SV
/-- a value in passing -/
inductive RV where
  | d (x : D) | own (c : C) | cv (i : Nat)
structure Sta (K : PySem.W.Frag) (F : Hp) (R : Fm) (σ : L2.St) (H : Hp) (env : Sl) : Prop where
  sub : Ex F H
  fr : Ex R.r H
  dis : ∀ b o, R.r b = some o → F b = none
  len : σ.length = env.length
  dat : ∀ (i : Nat) x, env[i]? = some (SV.d x) → ∃ v, σ[i]? = some (some v) ∧ Rel K F v x
  own : ∀ (i : Nat) b c, env[i]? = some (SV.own b c) → ∃ p o, σ[i]? = some (some (V.ref p)) ∧ F p = none ∧ R.r p = none ∧ H p = some o ∧ CellOk K F p o c
  tag : ∀ (i : Nat) c, env[i]? = some (SV.own true c) → σ[i]? = some (some (V.ref (R.t i)))
  inj : ∀ (i j : Nat) bi ci bj cj p, env[i]? = some (SV.own bi ci) → env[j]? = some (SV.own bj cj) → σ[i]? = some (some (V.ref p)) → σ[j]? = some (some (V.ref p)) → i = j
  xn : ∀ (i : Nat) e, env[i]? = some (SV.xn e) → ∃ a cls d, Tabs.X = some (a, cls, d) ∧ σ[i]? = some (some (V.ref a)) ∧ XnAt K F e cls d
  tab : ∀ P, Tabs.T P → TabD F H P ∧ F P = none ∧ R.r P = none
def RvOk (K : PySem.W.Frag) (F : Hp) (R : Fm) (σ : L2.St) (H : Hp) (env : Sl) (v : V) : RV → Prop
  | .d x => Rel K F v x
  | .own c => ∃ p o, v = .ref p ∧ F p = none ∧ R.r p = none ∧ H p = some o ∧ CellOk K F p o c ∧ ∀ (i : Nat) b c', env[i]? = some (SV.own b c') → σ[i]? ≠ some (some (V.ref p))
  | .cv i => σ[i]? = some (some v)
inductive Re where
  | ok (a : RV) (env : Sl) | ex (e : Xn) (env : Sl)
abbrev SE := Sl → Option Re
def bindE (x : Option Re) (k : RV → SE) : Option Re :=
  match x with
  | some (.ok a env) => k a env
  | some (.ex e env) => some (.ex e env)
  | none => none
@[simp] theorem bindE_ok {a : RV} {env : Sl} {k : RV → SE} : bindE (some (.ok a env)) k = k a env := rfl
@[simp] theorem bindE_ex {e : Xn} {env : Sl} {k : RV → SE} : bindE (some (.ex e env)) k = some (.ex e env) := rfl
@[simp] theorem bindE_none {k : RV → SE} : bindE none k = none := rfl
section
variable (K : PySem.W.Frag) (W : WX)
def PostE (F : Hp) (R : Fm) (σ : L2.St) (r : Re) (Q : VK) : Prop :=
  match r with
  | .ok a env' => ∀ v F' H', Ex F F' → Sta K F' R σ H' env' → RvOk K F' R σ H' env' v a → Q v H'
  | .ex e env' => ∀ cls d F' H', Ex F F' → Sta K F' R σ H' env' → XnAt K F' e cls d → W cls d σ H'
/-- what an expression asks: its meaning is f -/
def dE (f : SE) : TE := fun σ H Q => ∃ env F R r, Sta K F R σ H env ∧ f env = some r ∧ PostE K W F R σ r Q
end
section
variable {K : PySem.W.Frag} {W : WX} {F F' : Hp} {R : Fm} {σ : L2.St} {H : Hp} {Q : VK}
theorem PostE.up (e : Ex F F') : ∀ {r : Re}, PostE K W F R σ r Q → PostE K W F' R σ r Q
  | .ok _ _, h => fun v F2 H2 e2 s q => h v F2 H2 (e.trans e2) s q
  | .ex _ _, h => fun c d F2 H2 e2 s q => h c d F2 H2 (e.trans e2) s q
theorem dE.mono {f g : SE} (h : ∀ env r, g env = some r → f env = some r) (q : dE K W g σ H Q) : dE K W f σ H Q := by
  obtain ⟨env, F, R, r, s, e, p⟩ := q
  exact ⟨env, F, R, r, s, h env r e, p⟩
end
/-- a weaker reading -/
theorem _root_.L2.PE.wk {X : Cx} {e : Expr} {t u : TE} (h : PE X e t) (w : ∀ σ H Q, u σ H Q → t σ H Q) : PE X e u := ⟨fun pins s σ H Q I q => h.run pins s σ H Q I (w σ H Q q)⟩
section
variable {K : PySem.W.Frag} {F F' F2 : Hp} {R R' : Fm} {σ : L2.St} {H H' : Hp} {env : Sl}
theorem ex_none {R R' : Hp} {q : Addr} (e : Ex R R') (h : R' q = none) : R q = none := by
  cases z : R q with
  | none => rfl
  | some u => rw [e q u z] at h; cases h
theorem Sta.xnUp (S : Sta K F R σ H env) (e : Ex F F') : ∀ (i : Nat) x, env[i]? = some (SV.xn x) → ∃ a cls d, Tabs.X = some (a, cls, d) ∧ σ[i]? = some (some (V.ref a)) ∧ XnAt K F' x cls d := fun i x q =>
  let ⟨a, cls, d, h1, h2, h3⟩ := S.xn i x q
  ⟨a, cls, d, h1, h2, h3.up e⟩
theorem Sta.xnNe (S : Sta K F R σ H env) (e : Ex F F') {i : Nat} {s : SV} (hs : ∀ x, s ≠ .xn x) : ∀ (j : Nat) x, (env.set i s)[j]? = some (SV.xn x) → j ≠ i ∧ ∃ a cls d, Tabs.X = some (a, cls, d) ∧ σ[j]? = some (some (V.ref a)) ∧ XnAt K F' x cls d := fun j x q => by
  by_cases hj : j = i
  · subst hj
    by_cases hl : j < env.length
    · rw [List.getElem?_set_self hl] at q
      exact absurd (Option.some.inj q) (hs x)
    · rw [List.getElem?_eq_none (by rw [List.length_set]; omega)] at q
      cases q
  · rw [List.getElem?_set_ne (Ne.symm hj)] at q
    exact ⟨hj, S.xnUp e j x q⟩
theorem Sta.xnSet (S : Sta K F R σ H env) (e : Ex F F') {i : Nat} {s : SV} (v : Option V) (hs : ∀ x, s ≠ .xn x) : ∀ (j : Nat) x, (env.set i s)[j]? = some (SV.xn x) → ∃ a cls d, Tabs.X = some (a, cls, d) ∧ (σ.set i v)[j]? = some (some (V.ref a)) ∧ XnAt K F' x cls d := fun j x q => by
  obtain ⟨hj, h⟩ := S.xnNe e hs j x q
  rw [List.getElem?_set_ne (Ne.symm hj)]
  exact h
/-- a new object, frozen at once -/
theorem Sta.freshF (S : Sta K F R σ H env) {p : Addr} {o : HO} (hp : H p = none) : Sta K (upd F p o) R σ (upd H p o) env := by
  have hF : F p = none := ex_none S.sub hp
  have hR : R.r p = none := ex_none S.fr hp
  refine ⟨fun a u e => ?_, fun a u e => ?_, fun b u e => ?_, S.len, fun i x e => ?_, fun i b c e => ?_, S.tag, S.inj, S.xnUp (Ex.new hF), fun P h => ?_⟩
  rotate_right
  · obtain ⟨⟨ps, h1, h2⟩, h3, h4⟩ := S.tab P h
    have n : P ≠ p := fun z => by rw [z, hp] at h1; cases h1
    exact ⟨⟨ps, by rw [upd_ne n]; exact h1, h2.up (Ex.new hF)⟩, by rw [upd_ne n]; exact h3, h4⟩
  · by_cases h : a = p
    · subst h; rw [upd_same] at e ⊢; exact e
    · rw [upd_ne h] at e ⊢; exact S.sub a u e
  · exact Ex.new hp a u (S.fr a u e)
  · have h : b ≠ p := fun h => by rw [h, hR] at e; cases e
    rw [upd_ne h]
    exact S.dis b u e
  · obtain ⟨v, e1, r⟩ := S.dat i x e
    exact ⟨v, e1, r.up (Ex.new hF)⟩
  · obtain ⟨q, u, e1, e2, e3, e4, e5⟩ := S.own i b c e
    have h : q ≠ p := fun h => by rw [h, hp] at e4; cases e4
    exact ⟨q, u, e1, by rw [upd_ne h]; exact e2, e3, by rw [upd_ne h]; exact e4, e5.up (Ex.new hF)⟩
theorem Sta.freeF (S : Sta K F R σ H env) {p : Addr} (hp : H p = none) : F p = none := ex_none S.sub hp
theorem Sta.freeR (S : Sta K F R σ H env) {p : Addr} (hp : H p = none) : R.r p = none := ex_none S.fr hp
/-- a new object, not frozen -/
theorem Sta.freshH (S : Sta K F R σ H env) {p : Addr} {o : HO} (hp : H p = none) : Sta K F R σ (upd H p o) env := by
  refine ⟨S.sub.trans (Ex.new hp), S.fr.trans (Ex.new hp), S.dis, S.len, S.dat, fun i b c e => ?_, S.tag, S.inj, S.xn, fun P h => let ⟨⟨ps, h1, h2⟩, h3⟩ := S.tab P h; ⟨⟨ps, Ex.new hp P _ h1, h2⟩, h3⟩⟩
  obtain ⟨q, u, e1, e2, e3, e4, e5⟩ := S.own i b c e
  exact ⟨q, u, e1, e2, e3, Ex.new hp q u e4, e5⟩
/-- a temporary thing p is put aside: it stands in the rest -/
theorem Sta.hold (S : Sta K F R σ H env) {p : Addr} {o : HO} (hF : F p = none) (hp : H p = some o) (ht : ∀ ps, o ≠ .tbl ps) (hs : ∀ (i : Nat) b c', env[i]? = some (SV.own b c') → σ[i]? ≠ some (some (V.ref p))) : Sta K F ⟨upd R.r p o, R.t, R.T⟩ σ H env := by
  refine ⟨S.sub, fun a u e => ?_, fun b u e => ?_, S.len, S.dat, fun i b c e => ?_, S.tag, S.inj, S.xn, fun P h => ?_⟩
  rotate_right
  · obtain ⟨⟨ps, h1, h2⟩, h3, h4⟩ := S.tab P h
    have n : P ≠ p := fun z => by rw [z, hp] at h1; exact ht ps (Option.some.inj h1)
    exact ⟨⟨ps, h1, h2⟩, h3, by show upd R.r p o P = none; rw [upd_ne n]; exact h4⟩
  · by_cases h : a = p
    · subst h
      have e : upd R.r a o a = some u := e
      rw [upd_same] at e; cases e; exact hp
    · have e : upd R.r p o a = some u := e
      rw [upd_ne h] at e; exact S.fr a u e
  · by_cases h : b = p
    · subst h; exact hF
    · have e : upd R.r p o b = some u := e
      rw [upd_ne h] at e; exact S.dis b u e
  · obtain ⟨q, u, e1, e2, e3, e4, e5⟩ := S.own i b c e
    have h : q ≠ p := fun h => hs i b c e (by rw [← h]; exact e1)
    exact ⟨q, u, e1, e2, by show upd R.r p o q = none; rw [upd_ne h]; exact e3, e4, e5⟩
theorem Sta.unhold (S : Sta K F R' σ H env) (e : FEx R R') : Sta K F R σ H env := by
  refine ⟨S.sub, e.1.trans S.fr, fun b u q => S.dis b u (e.1 b u q), S.len, S.dat, fun i b c h => ?_, fun i c h => by rw [e.t]; exact S.tag i c h, S.inj, S.xn, fun P h => let ⟨h1, h2, h3⟩ := S.tab P h; ⟨h1, h2, ex_none e.1 h3⟩⟩
  obtain ⟨q, u, e1, e2, e3, e4, e5⟩ := S.own i b c h
  exact ⟨q, u, e1, e2, ex_none e.1 e3, e4, e5⟩
/-- what holds of a value when it was put aside -/
def Held (K : PySem.W.Frag) (F : Hp) (R R' : Fm) (σ : L2.St) (v : V) : RV → Prop
  | .d x => Rel K F v x
  | .own c => ∃ p o, v = .ref p ∧ R.r p = none ∧ R'.r p = some o ∧ CellOk K F p o c
  | .cv i => σ[i]? = some (some v)
theorem hold {a : RV} {v : V} (S : Sta K F R σ H env) (h : RvOk K F R σ H env v a) : ∃ R', FEx R R' ∧ Sta K F R' σ H env ∧ Held K F R R' σ v a := by
  cases a with
  | d x => exact ⟨R, FEx.refl R, S, h⟩
  | cv i => exact ⟨R, FEx.refl R, S, h⟩
  | own c =>
    obtain ⟨p, o, e1, e2, e3, e4, e5, e6⟩ := h
    exact ⟨⟨upd R.r p o, R.t, R.T⟩, ⟨Ex.new e3, rfl⟩, S.hold e2 e4 e5.noT e6, p, o, e1, e3, upd_same, e5⟩
theorem unheld {a : RV} {v : V} (e : Ex F F') (eR : FEx R R') (S : Sta K F' R' σ H' env) (h : Held K F R R' σ v a) : RvOk K F' R σ H' env v a := by
  cases a with
  | d x => exact Rel.up e h
  | cv i => exact h
  | own c =>
    obtain ⟨p, o, e1, e3, e4, e5⟩ := h
    refine ⟨p, o, e1, S.dis p o e4, e3, S.fr p o e4, e5.up e, fun i b c' q z => ?_⟩
    obtain ⟨q1, u, z1, _, z3, _⟩ := S.own i b c' q
    rw [z] at z1
    cases z1
    rw [e4] at z3
    cases z3
theorem RvOk.unhold {a : RV} {v : V} (e : FEx R R') (h : RvOk K F R' σ H env v a) : RvOk K F R σ H env v a := by
  cases a with
  | d x => exact h
  | cv i => exact h
  | own c =>
    obtain ⟨p, o, e1, e2, e3, e4, e5, e6⟩ := h
    exact ⟨p, o, e1, e2, ex_none e.1 e3, e4, e5, e6⟩
end
end
end Dw
namespace Dw
noncomputable section
open PySem PySem.Spec PyProof.Rows L2
variable [Glo] [Tabs]
section
variable (K : PySem.W.Frag) (W : WX)
def atE (f : SE) (F : Hp) (R : Fm) (σ : L2.St) (env : Sl) (Q : VK) : Prop := ∃ r, f env = some r ∧ PostE K W F R σ r Q
end
section
variable {K : PySem.W.Frag} {W : WX} {F F' : Hp} {R R' : Fm} {σ : L2.St} {H H' : Hp} {env : Sl} {Q Q1 : VK}
theorem dE_of {f : SE} (S : Sta K F R σ H env) (h : atE K W f F R σ env Q) : dE K W f σ H Q := let ⟨r, e, p⟩ := h; ⟨env, F, R, r, S, e, p⟩
theorem of_dE {f : SE} (h : dE K W f σ H Q) : ∃ env F R, Sta K F R σ H env ∧ atE K W f F R σ env Q := let ⟨env, F, R, r, S, e, p⟩ := h; ⟨env, F, R, S, r, e, p⟩
theorem atE.up {f : SE} (e : Ex F F') (h : atE K W f F R σ env Q) : atE K W f F' R σ env Q := let ⟨r, q, p⟩ := h; ⟨r, q, p.up e⟩
theorem PostE.un (e : FEx R R') : ∀ {r : Re}, PostE K W F R σ r Q → PostE K W F R' σ r Q
  | .ok _ _, h => fun v F2 H2 e2 s q => h v F2 H2 e2 (s.unhold e) (q.unhold e)
  | .ex _ _, h => fun c d F2 H2 e2 s q => h c d F2 H2 e2 (s.unhold e) q
theorem atE.un {f : SE} (e : FEx R R') (h : atE K W f F R σ env Q) : atE K W f F R' σ env Q := let ⟨r, q, p⟩ := h; ⟨r, q, p.un e⟩
theorem atE_bindR {f : SE} {k : RV → SE} (eR : FEx R R') (h : atE K W (fun env => bindE (f env) k) F R σ env Q)
    (hk : ∀ a env1 F1 v H1, Ex F F1 → Sta K F1 R' σ H1 env1 → RvOk K F1 R' σ H1 env1 v a → atE K W (k a) F1 R σ env1 Q → Q1 v H1) : atE K W f F R' σ env Q1 := by
  obtain ⟨r, e, p⟩ := h
  cases hf : f env with
  | none =>
    rw [show (fun env => bindE (f env) k) env = none by simp only [hf, bindE_none]] at e
    cases e
  | some r1 =>
    cases r1 with
    | ok a env1 =>
      rw [show (fun env => bindE (f env) k) env = k a env1 by simp only [hf, bindE_ok]] at e
      exact ⟨_, hf, fun v F1 H1 e1 s1 rv => hk a env1 F1 v H1 e1 s1 rv ⟨r, e, p.up e1⟩⟩
    | ex x env1 =>
      rw [show (fun env => bindE (f env) k) env = some (.ex x env1) by simp only [hf, bindE_ex]] at e
      cases e
      exact ⟨_, hf, PostE.un (Q := Q1) eR (show PostE K W F R σ (.ex x env1) Q1 from p)⟩
theorem atE_bind {f : SE} {k : RV → SE} (h : atE K W (fun env => bindE (f env) k) F R σ env Q)
    (hk : ∀ a env1 F1 v H1, Ex F F1 → Sta K F1 R σ H1 env1 → RvOk K F1 R σ H1 env1 v a → atE K W (k a) F1 R σ env1 Q → Q1 v H1) : atE K W f F R σ env Q1 := atE_bindR (FEx.refl R) h hk
/-- two operands -/
def two (op : RV → RV → SE) (fa fb : SE) : SE := fun env => bindE (fa env) fun a env1 => bindE (fb env1) fun b env2 => op a b env2
theorem dE_two {fa fb : SE} {op : RV → RV → SE} {r : V → V → Hp → Prop} (h : dE K W (two op fa fb) σ H Q)
    (hk : ∀ a b env F R v w H', Sta K F R σ H' env → RvOk K F R σ H' env v a → RvOk K F R σ H' env w b → atE K W (op a b) F R σ env Q → r v w H') :
    dE K W fa σ H fun x H1 => dE K W fb σ H1 fun y H2 => r x y H2 := by
  obtain ⟨env, F, R, S, q⟩ := of_dE h
  refine dE_of S (atE_bind q fun a env1 F1 v H1 e1 S1 rv q1 => ?_)
  obtain ⟨R', eR, S1', hd⟩ := hold S1 rv
  exact dE_of S1' (atE_bindR eR q1 fun b env2 F2 w H2 e2 S2 rw' q2 => hk a b env2 F2 R v w H2 (S2.unhold eR) (unheld e2 eR S2 hd) (rw'.unhold eR) q2)
theorem dE_one {fa : SE} {op : RV → SE} {r : V → Hp → Prop} (h : dE K W (fun env => bindE (fa env) op) σ H Q)
    (hk : ∀ a env F R v H', Sta K F R σ H' env → RvOk K F R σ H' env v a → atE K W (op a) F R σ env Q → r v H') : dE K W fa σ H r := by
  obtain ⟨env, F, R, S, q⟩ := of_dE h
  exact dE_of S (atE_bind q fun a env1 F1 v H1 e1 S1 rv q1 => hk a env1 F1 R v H1 S1 rv q1)
def pkS : Option SV → Option D
  | some (.d x) => some x
  | some (.own _ c) => some (cD c)
  | _ => none
def pk (a : RV) (env : Sl) : Option D :=
  match a with
  | .d x => some x
  | .own c => some (cD c)
  | .cv i => pkS env[i]?
/-- a value as it is read now: a list's items are frozen, the list itself need not be -/
def Vw (K : PySem.W.Frag) (F H : Hp) (v : V) : D → Prop
  | .lst xs => ∃ p vs, v = .ref p ∧ SqL K H p vs ∧ RelAll K F vs xs
  | .dct ks vs => ∃ (p : Addr) (kvs : List (Key × V)), v = .ref p ∧ H p = some (.dK kvs) ∧ kvs.map (fun e => kD e.1) = ks ∧ RelAll K F (kvs.map (·.2)) vs
  | .ins c ns xs => ∃ (p C dx : Addr) (fs : List (Str × V)), v = .ref p ∧ H p = some (.ins C dx fs) ∧ Glo.S c C ∧ fs.map (·.1) = ns ∧ RelAll K F (fs.map (·.2)) xs
  | .dcu ks vs => ∃ (p : Addr) (es : List (NestedKey × Addr × Value)) (us : List V), v = .ref p ∧ H p = some (dxO Glo.w p es) ∧ ks.map nkD = es.map (fun x => some x.1) ∧ RelAll K F (es.map fun x => .ref x.2.1) ks ∧ Vals us (es.map (·.2.2)) ∧ RelAll K F us vs
  | x => Rel K F v x
theorem Vw.of (e : Ex F H) {v : V} {x : D} (h : Rel K F v x) : Vw K F H v x := by
  cases h with
  | lst s r => exact ⟨_, _, rfl, ex_l e s, r⟩
  | non => exact .non
  | bl b => exact .bl b
  | int i => exact .int i
  | str x => exact .str x
  | tup s r => exact .tup s r
  | dct s k q => exact ⟨_, _, rfl, e _ _ s, k, q⟩
  | ins s c n r => exact ⟨_, _, _, _, rfl, e _ _ s, c, n, r⟩
  | dcu s n k u r => exact ⟨_, _, _, rfl, e _ _ s, n, k, u, r⟩
theorem Vw.rel (e : Ex F H) {v : V} : ∀ {x : D}, Vw K F H v x → Rel K H v x
  | .lst _, ⟨p, vs, e1, s, r⟩ => by subst e1; exact .lst s (r.up e)
  | .dct _ _, ⟨p, kvs, e1, s, k, q⟩ => by subst e1; exact .dct s k (q.up e)
  | .ins _ _ _, ⟨p, C, dx, fs, e1, s, c, n, r⟩ => by subst e1; exact .ins s c n (r.up e)
  | .dcu _ _, ⟨p, es, us, e1, s, n, k, u, r⟩ => by subst e1; exact .dcu s n (k.up e) u (r.up e)
  | .non, h => Rel.up e h
  | .bl _, h => Rel.up e h
  | .int _, h => Rel.up e h
  | .str _, h => Rel.up e h
  | .tup _, h => Rel.up e h
theorem Vw.ofCell {p : Addr} {o : HO} {c : C} (hp : H p = some o) (h : CellOk K F p o c) : Vw K F H (.ref p) (cD c) := by
  cases c with
  | lst xs =>
    obtain ⟨vs, rfl, r⟩ := h
    exact ⟨p, vs, rfl, .inl (Rd.of hp), r⟩
  | dct ks vs =>
    obtain ⟨kvs, rfl, k, q⟩ := h
    exact ⟨p, kvs, rfl, hp, k, q⟩
  | ins c ns xs =>
    obtain ⟨C, dx, fs, rfl, c, n, r⟩ := h
    exact ⟨p, C, dx, fs, rfl, hp, c, n, r⟩
  | dcu ks vs =>
    obtain ⟨es, us, rfl, n, k, u, r⟩ := h
    exact ⟨p, es, us, rfl, hp, n, k, u, r⟩
theorem pk_vw {a : RV} {v : V} {x : D} (S : Sta K F R σ H env) (h : RvOk K F R σ H env v a) (e : pk a env = some x) : Vw K F H v x := by
  cases a with
  | d y => cases e; exact Vw.of S.sub h
  | own c =>
    cases e
    obtain ⟨p, o, rfl, _, _, hp, ho, _⟩ := h
    exact Vw.ofCell hp ho
  | cv i =>
    have h : σ[i]? = some (some v) := h
    have e : pkS env[i]? = some x := e
    cases hi : env[i]? with
    | none => rw [hi] at e; cases e
    | some s =>
      rw [hi] at e
      cases s with
      | un => cases e
      | xn _ => cases e
      | d y =>
        cases e
        obtain ⟨v', e', r⟩ := S.dat i x hi
        rw [h] at e'
        cases e'
        exact Vw.of S.sub r
      | own b c =>
        cases e
        obtain ⟨p, o, e', _, _, hp, ho⟩ := S.own i _ _ hi
        rw [h] at e'
        cases e'
        exact Vw.ofCell hp ho
/-- a value that is put into another thing: a thing of one's own is frozen -/
def frzS (i : Nat) (env : Sl) : Option SV → Option (D × Sl)
  | some (.d x) => some (x, env)
  | some (.own false c) => some (cD c, env.set i (.d (cD c)))
  | _ => none
def frz (a : RV) (env : Sl) : Option (D × Sl) :=
  match a with
  | .d x => some (x, env)
  | .own c => some (cD c, env)
  | .cv i => frzS i env env[i]?
theorem Sta.freeze (S : Sta K F R σ H env) {p : Addr} {o : HO} (hF : F p = none) (hR : R.r p = none) (hp : H p = some o) (ht : ∀ ps, o ≠ .tbl ps) (hs : ∀ (i : Nat) b c', env[i]? = some (SV.own b c') → σ[i]? ≠ some (some (V.ref p))) : Sta K (upd F p o) R σ H env := by
  have eF : Ex F (upd F p o) := Ex.new hF
  refine ⟨fun a u e => ?_, S.fr, fun b u e => ?_, S.len, fun i x e => ?_, fun i b c e => ?_, S.tag, S.inj, S.xnUp eF, fun P h => ?_⟩
  rotate_right
  · obtain ⟨⟨ps, h1, h2⟩, h3, h4⟩ := S.tab P h
    have n : P ≠ p := fun z => by rw [z, hp] at h1; exact ht ps (Option.some.inj h1)
    exact ⟨⟨ps, h1, h2.up eF⟩, by rw [upd_ne n]; exact h3, h4⟩
  · by_cases h : a = p
    · subst h; rw [upd_same] at e; cases e; exact hp
    · rw [upd_ne h] at e; exact S.sub a u e
  · have h : b ≠ p := fun h => by rw [h, hR] at e; cases e
    rw [upd_ne h]; exact S.dis b u e
  · obtain ⟨v, e1, r⟩ := S.dat i x e
    exact ⟨v, e1, r.up eF⟩
  · obtain ⟨q, u, e1, e2, e3, e4, e5⟩ := S.own i b c e
    have h : q ≠ p := fun h => hs i b c e (by rw [← h]; exact e1)
    exact ⟨q, u, e1, by rw [upd_ne h]; exact e2, e3, e4, e5.up eF⟩
theorem Sta.freezeSlot (S : Sta K F R σ H env) {i : Nat} {c0 : C} {p : Addr} {o : HO} {b0 : Bool} (hi : env[i]? = some (SV.own b0 c0)) (e1 : σ[i]? = some (some (V.ref p))) (hF : F p = none) (hR : R.r p = none) (hp : H p = some o) (ho : CellOk K F p o c0) :
    Sta K (upd F p o) R σ H (env.set i (.d (cD c0))) ∧ Rel K (upd F p o) (.ref p) (cD c0) := by
  have eF : Ex F (upd F p o) := Ex.new hF
  have rr : Rel K (upd F p o) (.ref p) (cD c0) := CellOk.rel upd_same (ho.up eF)
  have hl : i < env.length := (List.getElem?_eq_some_iff.mp hi).1
  have other : ∀ {j : Nat} {s : SV}, (env.set i (.d (cD c0)))[j]? = some s → (∀ x, s ≠ .d x) → j ≠ i ∧ env[j]? = some s := fun {j s} h hd => by
    by_cases hj : j = i
    · subst hj
      rw [List.getElem?_set_self hl] at h
      exact absurd (Option.some.inj h).symm (hd _)
    · rw [List.getElem?_set_ne (Ne.symm hj)] at h
      exact ⟨hj, h⟩
  have od : ∀ {b : Bool} {c : C} (x : D), SV.own b c ≠ .d x := fun x z => by cases z
  refine ⟨⟨fun a u e => ?_, S.fr, fun b u e => ?_, by rw [List.length_set]; exact S.len, fun j x e => ?_, fun j b c e => ?_, fun j c e => S.tag j c (other e od).2, fun j k bj cj bk ck q h1 h2 h3 h4 => ?_, fun j x e => S.xnUp eF j x (other e fun y z => by cases z).2, fun P h => ?_⟩, rr⟩
  rotate_right
  · obtain ⟨⟨ps, h1, h2⟩, h3, h4⟩ := S.tab P h
    have n : P ≠ p := fun z => by rw [z, hp] at h1; exact ho.noT ps (Option.some.inj h1)
    exact ⟨⟨ps, h1, h2.up eF⟩, by rw [upd_ne n]; exact h3, h4⟩
  · by_cases h : a = p
    · subst h; rw [upd_same] at e; cases e; exact hp
    · rw [upd_ne h] at e; exact S.sub a u e
  · have h : b ≠ p := fun h => by rw [h, hR] at e; cases e
    rw [upd_ne h]; exact S.dis b u e
  · by_cases hj : j = i
    · subst hj
      rw [List.getElem?_set_self hl] at e
      cases e
      exact ⟨_, e1, rr⟩
    · rw [List.getElem?_set_ne (Ne.symm hj)] at e
      obtain ⟨v, e1, r⟩ := S.dat j x e
      exact ⟨v, e1, r.up eF⟩
  · obtain ⟨hj, e⟩ := other e od
    obtain ⟨q, u, e2, e3, e4, e5, e6⟩ := S.own j b c e
    have h : q ≠ p := fun h => hj (S.inj j i b c b0 _ p e hi (by rw [← h]; exact e2) e1)
    exact ⟨q, u, e2, by rw [upd_ne h]; exact e3, e4, e5, e6.up eF⟩
  · exact S.inj j k bj cj bk ck q (other h1 od).2 (other h2 od).2 h3 h4
theorem frz_ok {a : RV} {v : V} {x : D} {env' : Sl} (S : Sta K F R σ H env) (h : RvOk K F R σ H env v a) (e : frz a env = some (x, env')) : ∃ F', Ex F F' ∧ Sta K F' R σ H env' ∧ Rel K F' v x := by
  cases a with
  | d y => cases e; exact ⟨F, Ex.refl F, S, h⟩
  | own c =>
    cases e
    obtain ⟨p, o, rfl, hF, hR, hp, ho, hs⟩ := h
    exact ⟨upd F p o, Ex.new hF, S.freeze hF hR hp ho.noT hs, CellOk.rel upd_same (ho.up (Ex.new hF))⟩
  | cv i =>
    have h : σ[i]? = some (some v) := h
    have e : frzS i env env[i]? = some (x, env') := e
    cases hi : env[i]? with
    | none => rw [hi] at e; cases e
    | some s =>
      rw [hi] at e
      cases s with
      | un => cases e
      | xn _ => cases e
      | d y =>
        cases e
        obtain ⟨v', e', r⟩ := S.dat i x hi
        rw [h] at e'
        cases e'
        exact ⟨F, Ex.refl F, S, r⟩
      | own b c =>
        cases b <;> cases e
        obtain ⟨p, o, e', hF, hR, hp, ho⟩ := S.own i _ _ hi
        rw [h] at e'
        cases e'
        obtain ⟨S', r⟩ := S.freezeSlot hi h hF hR hp ho
        exact ⟨_, Ex.new hF, S', r⟩
/-- behind a rule: a value that is data | a new list -/
theorem post_d {x : D} {v : V} (S : Sta K F R σ H env) (p : PostE K W F R σ (.ok (.d x) env) Q) (h : Rel K F v x) : Q v H := p v F H (Ex.refl F) S h
theorem post_new {xs : List D} {vs : List V} {p : Addr} (S : Sta K F R σ H env) (q : PostE K W F R σ (.ok (.own (.lst xs)) env) Q) (hp : H p = none) (h : RelAll K F vs xs) : Q (.ref p) (upd H p (.lst vs)) :=
  q _ F _ (Ex.refl F) (S.freshH hp) ⟨p, _, rfl, S.freeF hp, S.freeR hp, upd_same, ⟨vs, rfl, h⟩, fun i b c' e z => by
    obtain ⟨p', o, e1, _, _, e4, _⟩ := S.own i b c' e
    rw [z] at e1
    cases e1
    rw [hp] at e4
    cases e4⟩
theorem post_tup {xs : List D} {vs : List V} {p : Addr} (S : Sta K F R σ H env) (q : PostE K W F R σ (.ok (.d (.tup xs)) env) Q) (hp : H p = none) (h : RelAll K F vs xs) : Q (.ref p) (upd H p (.tup vs)) :=
  q _ (upd F p (.tup vs)) _ (Ex.new (S.freeF hp)) (S.freshF hp) (.tup (SqT.of upd_same) (h.up (Ex.new (S.freeF hp))))
end
end
end Dw
namespace Dw
noncomputable section
open PySem PySem.Spec PyProof.Rows L2
variable [Glo] [Tabs]
def constE (x : D) : SE := fun env => some (.ok (.d x) env)
def varS (i : Nat) : Option SV → Option RV
  | some (.d x) => some (.d x)
  | some (.own _ _) => some (.cv i)
  | _ => none
def varE (i : Nat) : SE := fun env => (varS i env[i]?).map (Re.ok · env)
section
variable {X : Cx} {W : WX}
theorem pd_var {i : Nat} {e : Expr} (h : PE X e (tVar i)) : PE X e (dE X.K W (varE i)) := by
  refine h.wk fun σ H Q q => ?_
  obtain ⟨env, F, R, S, r, e, p⟩ := of_dE q
  unfold varE at e
  cases hi : env[i]? with
  | none => rw [hi] at e; cases e
  | some s =>
    rw [hi] at e
    cases s with
    | un => cases e
    | xn _ => cases e
    | d x =>
      cases e
      obtain ⟨v, e1, r⟩ := S.dat i x hi
      exact ⟨v, e1, p v F H (Ex.refl F) S r⟩
    | own b c =>
      cases e
      obtain ⟨a, o, e1, _⟩ := S.own i b c hi
      exact ⟨_, e1, p _ F H (Ex.refl F) S e1⟩
theorem pd_c {e : Expr} {v : V} {x : D} (h : PE X e (tC v)) (r : ∀ F, Rel X.K F v x) : PE X e (dE X.K W (constE x)) := by
  refine h.wk fun σ H Q q => ?_
  obtain ⟨env, F, R, S, r', e, p⟩ := of_dE q
  cases e
  exact p v F H (Ex.refl F) S (r F)
theorem pd_int {i j pos} : PE X (.Constant (.int i) j pos) (dE X.K W (constE (.int i))) := pd_c pe_int fun _ => .int i
theorem pd_bl {b j pos} : PE X (.Constant (.bool b) j pos) (dE X.K W (constE (.bl b))) := pd_c pe_bl fun _ => .bl b
theorem pd_non {j pos} : PE X (.Constant .none j pos) (dE X.K W (constE .non)) := pd_c pe_non fun _ => .non
theorem pd_str {x : Str} {j pos} (l : List Nat) (h : x.cps.toList = l) : PE X (.Constant (.str x) j pos) (dE X.K W (constE (.str l))) := by
  refine pd_c pe_str fun F => ?_
  have e : x = mk l := by rw [← h, mk_of]
  rw [e]
  exact .str l
end
def op2 (f : D → D → Option RV) (a b : RV) : SE := fun env => (pk a env).bind fun x => (pk b env).bind fun y => (f x y).map (Re.ok · env)
theorem op2_inv {f : D → D → Option RV} {a b : RV} {env : Sl} {r : Re} (h : op2 f a b env = some r) : ∃ x y z, pk a env = some x ∧ pk b env = some y ∧ f x y = some z ∧ r = .ok z env := by
  unfold op2 at h
  rw [Option.bind_eq_some_iff] at h
  obtain ⟨x, h1, h⟩ := h
  rw [Option.bind_eq_some_iff] at h
  obtain ⟨y, h2, h⟩ := h
  rw [Option.map_eq_some_iff] at h
  obtain ⟨z, h3, h⟩ := h
  exact ⟨x, y, z, h1, h2, h3, h.symm⟩
theorem bindE_inv {x : Option Re} {k : RV → SE} {r : Re} (h : bindE x k = some r) : (∃ a env1, x = some (.ok a env1) ∧ k a env1 = some r) ∨ ∃ e env1, x = some (.ex e env1) ∧ r = .ex e env1 := by
  cases x with
  | none => cases h
  | some q =>
    cases q with
    | ok a env1 => exact .inl ⟨a, env1, rfl, h⟩
    | ex e env1 => exact .inr ⟨e, env1, rfl, (Option.some.inj h).symm⟩
def Snd2 (K : PySem.W.Frag) (f : D → D → Option RV) (r : R2) : Prop := ∀ {W : WX} {F : Hp} {R : Fm} {σ : L2.St} {H : Hp} {env : Sl} {Q : VK} {x y : D} {v w : V} {z : RV},
  Sta K F R σ H env → Vw K F H v x → Vw K F H w y → f x y = some z → PostE K W F R σ (.ok z env) Q → r v w H Q
theorem op2_snd {K : PySem.W.Frag} {W : WX} {f : D → D → Option RV} {r : R2} (hs : Snd2 K f r) {a b : RV} {env : Sl} {F : Hp} {R : Fm} {σ : L2.St} {v w : V} {H : Hp} {Q : VK} (S : Sta K F R σ H env) (h1 : RvOk K F R σ H env v a) (h2 : RvOk K F R σ H env w b)
    (h : atE K W (op2 f a b) F R σ env Q) : r v w H Q := by
  obtain ⟨r', e, p⟩ := h
  obtain ⟨x, y, z, ha, hb, hf, rfl⟩ := op2_inv e
  exact hs S (pk_vw S h1 ha) (pk_vw S h2 hb) hf p
section
variable {X : Cx} {W : WX} {a b : Expr} {fa fb : SE} {pos : Pos}
theorem pd_op {op : Operator} {r : R2} {f : D → D → Option RV} (ho : OpR X (binaryOp op) r) (hs : Snd2 X.K f r) (ha : PE X a (dE X.K W fa)) (hb : PE X b (dE X.K W fb)) : PE X (.BinOp a op b pos) (dE X.K W (two (op2 f) fa fb)) :=
  (pe_op ho ha hb).wk fun σ H Q q => dE_two q fun _ _ _ _ _ _ _ _ S h1 h2 h => op2_snd hs S h1 h2 h
theorem pd_cmp {op : CmpOp} {r : R2} {f : D → D → Option RV} (ho : OpR X (compareOp op) r) (hs : Snd2 X.K f r) (hm : behindInMarks op b = false) (ha : PE X a (dE X.K W fa)) (hb : PE X b (dE X.K W fb)) : PE X (.Compare a [op] [b] pos) (dE X.K W (two (op2 f) fa fb)) :=
  (pe_cmpR ho ha hb hm).wk fun σ H Q q => dE_two q fun _ _ _ _ _ _ _ _ S h1 h2 h => op2_snd hs S h1 h2 h
end
def rOr (r r' : R2) : R2 := fun x y H Q => r x y H Q ∨ r' x y H Q
/-- a list that stands in H or in the written part -/
def rCatR (K : PySem.W.Frag) : R2 := fun x y H Q => ∃ l b xs zs, x = .ref l ∧ y = .ref b ∧ SqL K H l xs ∧ SqL K H b zs ∧ xs.length + zs.length ≤ sizeLine ∧ ∀ p, H p = none → Q (.ref p) (upd H p (.lst (xs ++ zs)))
theorem op_catR {X : Cx} : OpR X (binaryOp .Add) (rCatR X.K) := by
  intro pins s σ H x y v u Q I rx ry h
  obtain ⟨l, b, xs, zs, rfl, rfl, hH, hB, hz, q⟩ := h
  cases rx
  cases ry
  obtain ⟨its, r, p1, z1⟩ := I.list hH
  obtain ⟨its2, r2, p2, z2⟩ := I.list hB
  obtain ⟨⟨cls, dd, data, sl⟩, ho, hc, n, hd⟩ := id p1.isList
  obtain ⟨⟨cls2, dd2, data2, sl2⟩, ho2, hc2, n2, hd2⟩ := id p2.isList
  simp only at hc hd hc2 hd2
  subst hc hd hc2 hd2
  have e1 := r.length
  have e2 := r2.length
  refine concat_meets ⟨_, ho, rfl⟩ ⟨_, ho2, rfl⟩ PySem.noFill_list_add PySem.seq_list_add PySem.F.slot_list_add PySem.F.entry_list_add (PySem.F.args_list_add_2 _ _) (PyProof.Rows.list_addW l b its.toArray its2.toArray n n2 dd dd2 sl sl2 (by rw [List.size_toArray, List.size_toArray]; omega)) ⟨ho, ho2, ?_⟩
  have ea : its.toArray ++ its2.toArray = (its ++ its2).toArray := by simp
  rw [ea]
  exact ⟨.ref _, _, I.lnew (t' := s.toks) (r.append r2) (by rw [List.length_append]; omega), rfl, q _ I.fresh⟩
def addD : D → D → Option RV
  | .int i, .int j => some (.d (.int (i + j)))
  | .str x, .str y => if x.length + y.length ≤ sizeLine then some (.d (.str (x ++ y))) else none
  | .lst xs, .lst ys => if xs.length + ys.length ≤ sizeLine then some (.own (.lst (xs ++ ys))) else none
  | .tup xs, .tup ys => if xs.length + ys.length ≤ sizeLine then some (.d (.tup (xs ++ ys))) else none
  | _, _ => none
def rAddI : R2 := rI0 fun i j => .int (i + j)
def rAddT : R2 := fun x y H Q => ∃ i j, x = .str i ∧ y = .str j ∧ i.length + j.length ≤ sizeLine ∧ Q (.str (i ++ j)) H
def rAddAny (K : PySem.W.Frag) : R2 := rOr rAddI (rOr rAddT (rOr (rCatR K) (rCatA K)))
theorem op_addAny {X : Cx} : OpR X (binaryOp .Add) (rAddAny X.K) := OpR.or op_add (OpR.or op_add_str (OpR.or op_catR op_catA))
theorem some_if {α : Type} {c : Prop} [Decidable c] {x y : α} (h : (if c then some x else none) = some y) : c ∧ x = y := by
  by_cases hc : c
  · rw [if_pos hc] at h
    exact ⟨hc, Option.some.inj h⟩
  · rw [if_neg hc] at h
    cases h
theorem snd_add {K : PySem.W.Frag} : Snd2 K addD (rAddAny K) := by
  intro W F R σ H env Q x y v w z S hx hy e p
  cases x <;> cases y <;> first | (cases e; done) | skip
  · cases hx; cases hy; cases e
    exact .inl ⟨_, _, rfl, rfl, post_d S p (.int _)⟩
  · rename_i x y
    cases hx; cases hy
    obtain ⟨c, rfl⟩ := some_if e
    refine .inr (.inl ⟨_, _, rfl, rfl, by rw [mk_len, mk_len]; exact c, ?_⟩)
    rw [mk_app]
    exact post_d S p (.str _)
  · rename_i xs ys
    obtain ⟨a, vs, rfl, ha, ra⟩ := hx
    obtain ⟨b, ws, rfl, hb, rb⟩ := hy
    obtain ⟨c, rfl⟩ := some_if e
    exact .inr (.inr (.inl ⟨_, _, _, _, rfl, rfl, ha, hb, by rw [ra.len, rb.len]; exact c, fun q hq => post_new S p hq (ra.app rb)⟩))
  · rename_i xs ys
    cases hx with
    | tup sx rx =>
      cases hy with
      | tup sy ry =>
        obtain ⟨c, rfl⟩ := some_if e
        refine .inr (.inr (.inr ⟨_, _, _, _, rfl, rfl, ex_t S.sub sx, ex_t S.sub sy, by rw [rx.len, ry.len]; exact c, fun h0 => ?_, fun h0 h1 => ?_, fun h0 h1 q hq => post_tup S p hq (rx.app ry)⟩))
        · subst h0
          have e0 : xs = [] := List.eq_nil_of_length_eq_zero (by rw [← rx.len]; rfl)
          subst e0
          exact post_d S p (.tup sy ry)
        · subst h1
          have e0 : ys = [] := List.eq_nil_of_length_eq_zero (by rw [← ry.len]; rfl)
          subst e0
          rw [List.append_nil] at p
          exact post_d S p (.tup sx rx)
def intD (g : Int → Int → Option Int) : D → D → Option RV
  | .int i, .int j => (g i j).map fun k => .d (.int k)
  | _, _ => none
theorem snd_int {K : PySem.W.Frag} {c : Int → Int → Prop} {g : Int → Int → Int} {f : Int → Int → Option Int} (h : ∀ i j k, f i j = some k → c i j ∧ k = g i j) : Snd2 K (intD f) (rI c fun i j => .int (g i j)) := by
  intro W F R σ H env Q x y v w z S hx hy e p
  cases x <;> cases y <;> first | (cases e; done) | skip
  rename_i i j
  cases hx; cases hy
  cases hf : f i j with
  | none => simp [intD, hf] at e
  | some k =>
    simp only [intD, hf, Option.map_some, Option.some.injEq] at e
    subst e
    obtain ⟨h1, rfl⟩ := h i j k hf
    exact ⟨i, j, rfl, rfl, h1, post_d S p (.int _)⟩
def subD : D → D → Option RV := intD fun i j => some (i - j)
theorem snd_sub {K : PySem.W.Frag} : Snd2 K subD (rI0 fun i j => .int (i - j)) := by
  intro W F R σ H env Q x y v w z S hx hy e p
  obtain ⟨i, j, a, b, _, q⟩ := snd_int (K := K) (c := fun _ _ => True) (g := fun i j => i - j) (f := fun i j => some (i - j)) (fun i j k h => ⟨trivial, (Option.some.inj h).symm⟩) S hx hy e p
  exact ⟨i, j, a, b, q⟩
def big64 (i : Int) : Bool := okP (-(2 ^ 64) < i ∧ i < 2 ^ 64)
def mulI (i j : Int) : Option Int := if big64 i || big64 j then some (i * j) else none
def fdivI (i j : Int) : Option Int := if okP (0 < j ∧ j < 1073741824) then some (i / j) else none
def modI (i j : Int) : Option Int := if okP (0 < j) then some (i % j) else none
def powI (i j : Int) : Option Int := if okP ((0 ≤ j ∧ j ≤ 1000) ∧ i.natAbs < 1000) then some (i ^ j.toNat) else none
/-- a text times a number -/
def mulD : D → D → Option RV
  | .int i, .int j => (mulI i j).map fun k => .d (.int k)
  | .str x, .int n => if x.length ≤ 1000 ∧ n ≤ 1000 ∧ -1000 ≤ n then some (.d (.str (List.replicate n.toNat x).flatten)) else none
  | _, _ => none
def fdivD : D → D → Option RV := intD fdivI
def modD : D → D → Option RV := intD modI
def powD : D → D → Option RV := intD powI
def rMulS : R2 := fun x y H Q => ∃ l n, x = .str (mk l) ∧ y = .int n ∧ (l.length ≤ 1000 ∧ n ≤ 1000 ∧ -1000 ≤ n) ∧ Q (.str (mk (List.replicate n.toNat l).flatten)) H
theorem mul_mk {l : List Nat} {n : Int} : Txt.mul (mk l) n = mk (List.replicate n.toNat l).flatten := by
  have fold : ∀ (k : Nat) (acc : List Nat), (List.replicate k l.toArray).foldl (· ++ ·) acc.toArray = (acc ++ (List.replicate k l).flatten).toArray := by
    intro k
    induction k with
    | zero => intro acc; simp
    | succ k ih =>
      intro acc
      rw [List.replicate_succ, List.foldl_cons, List.replicate_succ, List.flatten_cons]
      rw [show acc.toArray ++ l.toArray = (acc ++ l).toArray by simp, ih, List.append_assoc]
  unfold Txt.mul
  by_cases h : n < 1
  · rw [if_pos h]
    have : n.toNat = 0 := by omega
    rw [this]
    rfl
  · rw [if_neg h]
    by_cases h2 : (n == 1 || (mk l).length == 0) = true
    · rw [if_pos h2]
      rw [Bool.or_eq_true] at h2
      rcases h2 with h2 | h2
      · have : n = 1 := by simpa using h2
        subst this
        simp [mk]
      · have : l = [] := by
          rw [mk_len] at h2
          exact List.eq_nil_of_length_eq_zero (by simpa using h2)
        subst this
        have : (List.replicate n.toNat ([] : List Nat)).flatten = [] := by simp
        rw [this]
    · rw [if_neg h2]
      have := fold n.toNat []
      simp only [mk]
      rw [show (#[] : Array Nat) = ([] : List Nat).toArray from rfl, this, List.nil_append]
theorem op_mulS {X : Cx} : OpR X (binaryOp .Mult) rMulS := by
  intro pins s σ H x y v u Q I rx ry h
  obtain ⟨l, n, rfl, rfl, ⟨h1, h2, h3⟩, q⟩ := h
  obtain ⟨t, rfl⟩ := rx
  obtain ⟨t', rfl⟩ := ry
  refine SB.mul ⟨?_, fun _ _ => ?_, fun _ _ => ?_⟩ fun t2 k => ⟨.str (Txt.mul (mk l) n), H, I.tok _, ⟨_, rfl⟩, by rw [mul_mk]; exact q⟩
  · have a : ¬ n < -(2 ^ 63 : Int) := by omega
    have b : ¬ n ≥ (2 ^ 63 : Int) := by omega
    rw [decide_eq_false a, decide_eq_false b]; rfl
  · rw [mk_len]
    have hn : 1 ≤ n := by omega
    have : (1000 : Int) ≤ (2 ^ 63 - 1) / n := by
      rw [Int.le_ediv_iff_mul_le (by omega)]
      omega
    omega
  · rw [mk_len]
    have z : l.length * n.toNat ≤ 1000 * 1000 := Nat.mul_le_mul h1 (by omega)
    unfold Builtin.Str.tooLong
    refine decide_eq_false ?_
    have : (1000 * 1000 : Nat) ≤ sizeLine := by decide
    omega
def rMulAny : R2 := rOr (rI CMul fun i j => .int (i * j)) rMulS
theorem op_mulAny {X : Cx} : OpR X (binaryOp .Mult) rMulAny := OpR.or op_mul op_mulS
theorem snd_mul {K : PySem.W.Frag} : Snd2 K mulD rMulAny := by
  intro W F R σ H env Q x y v w z S hx hy e p
  cases x <;> cases y <;> first | (cases e; done) | skip
  · rename_i i j
    refine .inl (snd_int (f := mulI) (fun i j k h => ?_) S hx hy (show intD mulI (.int i) (.int j) = some z from e) p)
    unfold mulI at h
    obtain ⟨c, e⟩ := some_if h
    refine ⟨?_, e.symm⟩
    rw [Bool.or_eq_true] at c
    unfold big64 at c
    rcases c with c | c
    · exact .inl (by simpa using okP_iff.mp c)
    · exact .inr (by simpa using okP_iff.mp c)
  · rename_i l n
    cases hx; cases hy
    obtain ⟨c, rfl⟩ := some_if e
    exact .inr ⟨l, n, rfl, rfl, c, post_d S p (.str _)⟩
theorem snd_fdiv {K : PySem.W.Frag} : Snd2 K fdivD (rI CDiv fun i j => .int (i / j)) := snd_int (f := fdivI) fun i j k h => by
  unfold fdivI at h
  obtain ⟨c, e⟩ := some_if h
  exact ⟨by simpa [CDiv] using okP_iff.mp c, e.symm⟩
theorem snd_mod {K : PySem.W.Frag} : Snd2 K modD (rI (fun _ j => 0 < j) fun i j => .int (i % j)) := snd_int (f := modI) fun i j k h => by
  unfold modI at h
  obtain ⟨c, e⟩ := some_if h
  exact ⟨okP_iff.mp c, e.symm⟩
theorem snd_pow {K : PySem.W.Frag} : Snd2 K powD (rI CPow fun i j => .int (i ^ j.toNat)) := snd_int (f := powI) fun i j k h => by
  unfold powI at h
  obtain ⟨c, e⟩ := some_if h
  refine ⟨?_, e.symm⟩
  rw [okP_iff] at c
  exact ⟨c.1.1, by omega, by have := c.2; omega⟩
section
variable {X : Cx} {W : WX} {a b : Expr} {fa fb : SE} {pos : Pos}
theorem pd_add (ha : PE X a (dE X.K W fa)) (hb : PE X b (dE X.K W fb)) : PE X (.BinOp a .Add b pos) (dE X.K W (two (op2 addD) fa fb)) := pd_op op_addAny snd_add ha hb
theorem pd_sub (ha : PE X a (dE X.K W fa)) (hb : PE X b (dE X.K W fb)) : PE X (.BinOp a .Sub b pos) (dE X.K W (two (op2 subD) fa fb)) := pd_op op_sub snd_sub ha hb
theorem pd_mul (ha : PE X a (dE X.K W fa)) (hb : PE X b (dE X.K W fb)) : PE X (.BinOp a .Mult b pos) (dE X.K W (two (op2 mulD) fa fb)) := pd_op op_mulAny snd_mul ha hb
theorem pd_fdiv (ha : PE X a (dE X.K W fa)) (hb : PE X b (dE X.K W fb)) : PE X (.BinOp a .FloorDiv b pos) (dE X.K W (two (op2 fdivD) fa fb)) := pd_op op_fdiv snd_fdiv ha hb
theorem pd_mod (ha : PE X a (dE X.K W fa)) (hb : PE X b (dE X.K W fb)) : PE X (.BinOp a .Mod b pos) (dE X.K W (two (op2 modD) fa fb)) := pd_op op_mod snd_mod ha hb
theorem pd_pow (ha : PE X a (dE X.K W fa)) (hb : PE X b (dE X.K W fb)) : PE X (.BinOp a .Pow b pos) (dE X.K W (two (op2 powD) fa fb)) := pd_op op_pow snd_pow ha hb
end
end
end Dw
namespace Dw
noncomputable section
open PySem PySem.Spec PyProof.Rows L2
variable [Glo] [Tabs]
mutual
def py : D → PyData
  | .non => .none
  | .bl b => .bool b
  | .int i => .int i
  | .str x => .str (mk x)
  | .lst xs => .list (pys xs)
  | .tup xs => .tuple (pys xs)
  | .dct _ _ => .dict []
  | .dcu _ _ => .dict []
  | .ins _ _ _ => .dict []
def pys : List D → List PyData
  | [] => []
  | x :: xs => py x :: pys xs
end
mutual
def eqB : D → D → Bool
  | .non, .non => true
  | .bl a, .bl b => a == b
  | .bl a, .int j => (if a then 1 else 0) == j
  | .int i, .bl b => i == (if b then 1 else 0)
  | .int i, .int j => i == j
  | .str x, .str y => x == y
  | .lst xs, .lst ys => eqBs xs ys
  | .tup xs, .tup ys => eqBs xs ys
  | _, _ => false
def eqBs : List D → List D → Bool
  | [], [] => true
  | x :: xs, y :: ys => eqB x y && eqBs xs ys
  | _, _ => false
end
theorem mk_beq (x y : List Nat) : (mk x == mk y) = (x == y) := by
  by_cases h : x = y
  · subst h
    rw [beq_self_eq_true, beq_self_eq_true]
  · have : mk x ≠ mk y := fun z => h (mk_inj z)
    rw [beq_eq_false_iff_ne.mpr this, beq_eq_false_iff_ne.mpr h]
mutual
theorem eqv_py : ∀ x y : D, PyData.eqv (py x) (py y) = eqB x y
  | .non, y => by cases y <;> rfl
  | .bl a, y => by cases y <;> rfl
  | .int a, y => by cases y <;> rfl
  | .str a, y => by
    cases y with
    | str b => exact mk_beq a b
    | _ => rfl
  | .lst xs, y => by
    cases y with
    | lst ys => exact eqv_pys xs ys
    | _ => rfl
  | .tup xs, y => by
    cases y with
    | tup ys => exact eqv_pys xs ys
    | _ => rfl
  | .dct _ _, y => by cases y <;> rfl
  | .dcu _ _, y => by cases y <;> rfl
  | .ins _ _ _, y => by cases y <;> rfl
theorem eqv_pys : ∀ xs ys : List D, PyData.eqvAll (pys xs) (pys ys) = eqBs xs ys
  | [], [] => rfl
  | [], _ :: _ => rfl
  | _ :: _, [] => rfl
  | x :: xs, y :: ys => by
    show (PyData.eqv (py x) (py y) && PyData.eqvAll (pys xs) (pys ys)) = (eqB x y && eqBs xs ys)
    rw [eqv_py x y, eqv_pys xs ys]
end
mutual
def dpl : D → Bool
  | .non => true
  | .bl _ => true
  | .int _ => true
  | .str _ => true
  | .lst xs => dpls xs
  | .tup xs => dpls xs
  | .dct _ _ => false
  | .dcu _ _ => false
  | .ins _ _ _ => false
def dpls : List D → Bool
  | [] => true
  | x :: xs => dpl x && dpls xs
end
mutual
theorem dpl_of : ∀ x : D, (py x).canLay0 = true → dpl x = true
  | .non, _ => rfl
  | .bl _, _ => rfl
  | .int _, _ => rfl
  | .str _, _ => rfl
  | .lst xs, h => dpls_of xs (by simpa [py, PyData.canLay0] using h)
  | .tup xs, h => dpls_of xs (by simpa [py, PyData.canLay0] using h)
  | .dct _ _, h => by simp [py, PyData.canLay0] at h
  | .dcu _ _, h => by simp [py, PyData.canLay0] at h
  | .ins _ _ _, h => by simp [py, PyData.canLay0] at h
theorem dpls_of : ∀ xs : List D, PyData.canLayAll0 (pys xs) = true → dpls xs = true
  | [], _ => rfl
  | x :: xs, h => by
    have h : (py x).canLay0 = true ∧ PyData.canLayAll0 (pys xs) = true := by simpa [pys, PyData.canLayAll0] using h
    show (dpl x && dpls xs) = true
    rw [dpl_of x h.1, dpls_of xs h.2]
    rfl
end
section
variable {K : PySem.W.Frag} {H : Hp}
mutual
theorem Rel.dp : ∀ {v : V} (x : D), dpl x = true → Rel K H v x → Dp K H v (py x)
  | _, .non, _, h => by cases h; exact .non
  | _, .bl _, _, h => by cases h; exact .bl _
  | _, .int _, _, h => by cases h; exact .int _
  | _, .str _, _, h => by cases h; exact .str _
  | _, .lst xs, p, h => by
    cases h with
    | lst s r => exact .lst s (RelAll.dp xs p r)
  | _, .tup xs, p, h => by
    cases h with
    | tup s r => exact .tup s (RelAll.dp xs p r)
  | _, .dct _ _, p, _ => by cases p
  | _, .dcu _ _, p, _ => by cases p
  | _, .ins _ _ _, p, _ => by cases p
theorem RelAll.dp : ∀ {vs : List V} (xs : List D), dpls xs = true → RelAll K H vs xs → DpAll K H vs (pys xs)
  | _, [], _, h => by cases h; exact .nil
  | _, x :: xs, p, h => by
    have p : (dpl x && dpls xs) = true := p
    rw [Bool.and_eq_true] at p
    cases h with
    | cons a b => exact .cons (Rel.dp x p.1 a) (RelAll.dp xs p.2 b)
end
end
/-- data that == may look at: signs below 0x110000, at most 64 deep -/
def shp (x : D) : Bool := SeqAt.shaped (py x)
theorem shp_pl {x : D} (h : shp x = true) : dpl x = true := dpl_of x (SeqAt.canLay_of_shaped h)
/-- flat things need no look -/
def flatD : D → Bool
  | .lst _ => false
  | .tup _ => false
  | .dct _ _ => false
  | .dcu _ _ => false
  | .ins _ _ _ => false
  | _ => true
/-- the pairs that == tells apart at once -/
def scalD : D → D → Bool
  | .non, .non => true | .non, .int _ => true | .int _, .non => true | .non, .bl _ => true | .bl _, .non => true | .non, .str _ => true | .str _, .non => true
  | .int _, .int _ => true | .bl _, .bl _ => true | .str _, .str _ => true
  | .int _, .str _ => true | .str _, .int _ => true | .bl _, .str _ => true | .str _, .bl _ => true
  | _, _ => false
def eqD (x y : D) : Option RV := if scalD x y || (shp x && shp y) then some (.d (.bl (eqB x y))) else none
def neD (x y : D) : Option RV := if scalD x y || (shp x && shp y) then some (.d (.bl (!eqB x y))) else none
def rEqAny (K : PySem.W.Frag) : R2 := rOr rEq (rEqD K)
def rNeAny (K : PySem.W.Frag) : R2 := rOr rNe (rNeD K)
theorem scal_of {K : PySem.W.Frag} {F H : Hp} {v w : V} {x y : D} (hx : Vw K F H v x) (hy : Vw K F H w y) (h : scalD x y = true) : scal v w = true ∧ decide (v = w) = eqB x y := by
  have dstr : ∀ a b : List Nat, decide (V.str (mk a) = V.str (mk b)) = (a == b) := fun a b => by rw [dec_str, mk_beq]
  cases x <;> cases y <;> first | (cases h; done) | skip
  all_goals (cases hx; cases hy; refine ⟨rfl, ?_⟩)
  all_goals first | rfl | (exact dec_int) | (exact dec_bl) | (exact dstr _ _) | (simp [eqB]; done)
theorem snd_eq {K : PySem.W.Frag} : Snd2 K eqD (rEqAny K) := by
  intro W F R σ H env Q x y v w z S hx hy e p
  obtain ⟨c, rfl⟩ := some_if e
  by_cases h : scalD x y = true
  · obtain ⟨a, b⟩ := scal_of hx hy h
    refine .inl ⟨a, ?_⟩
    rw [b]
    exact post_d S p (.bl _)
  · rw [Bool.or_eq_true, Bool.and_eq_true] at c
    rcases c with c | c
    · exact absurd c h
    · refine .inr ⟨py x, py y, (hx.rel S.sub).dp _ (shp_pl c.1), (hy.rel S.sub).dp _ (shp_pl c.2), c.1, c.2, ?_⟩
      rw [eqv_py]
      exact post_d S p (.bl _)
theorem snd_ne {K : PySem.W.Frag} : Snd2 K neD (rNeAny K) := by
  intro W F R σ H env Q x y v w z S hx hy e p
  obtain ⟨c, rfl⟩ := some_if e
  by_cases h : scalD x y = true
  · obtain ⟨a, b⟩ := scal_of hx hy h
    refine .inl ⟨a, ?_⟩
    rw [b]
    exact post_d S p (.bl _)
  · rw [Bool.or_eq_true, Bool.and_eq_true] at c
    rcases c with c | c
    · exact absurd c h
    · refine .inr ⟨py x, py y, (hx.rel S.sub).dp _ (shp_pl c.1), (hy.rel S.sub).dp _ (shp_pl c.2), c.1, c.2, ?_⟩
      rw [eqv_py]
      exact post_d S p (.bl _)
def ltD : D → D → Option RV
  | .int i, .int j => some (.d (.bl (decide (i < j))))
  | .str x, .str y => some (.d (.bl (decide (x < y))))
  | _, _ => none
def leD : D → D → Option RV
  | .int i, .int j => some (.d (.bl (decide (i ≤ j))))
  | .str x, .str y => some (.d (.bl (!decide (y < x))))
  | _, _ => none
def gtD : D → D → Option RV
  | .int i, .int j => some (.d (.bl (decide (j < i))))
  | _, _ => none
def geD : D → D → Option RV
  | .int i, .int j => some (.d (.bl (decide (j ≤ i))))
  | _, _ => none
theorem snd_cmpI {K : PySem.W.Frag} {g : Int → Int → Bool} {f : D → D → Option RV} (h : ∀ x y z, f x y = some z → ∃ i j, x = .int i ∧ y = .int j ∧ z = .d (.bl (g i j))) : Snd2 K f (rI0 fun i j => .bl (g i j)) := by
  intro W F R σ H env Q x y v w z S hx hy e p
  obtain ⟨i, j, rfl, rfl, rfl⟩ := h x y z e
  cases hx; cases hy
  exact ⟨i, j, rfl, rfl, post_d S p (.bl _)⟩
def rLtS : R2 := fun x y H Q => ∃ i j, x = .str i ∧ y = .str j ∧ Q (.bl (decide (i.cps.toList < j.cps.toList))) H
theorem snd_gt {K : PySem.W.Frag} : Snd2 K gtD (rI0 fun i j => .bl (decide (j < i))) := snd_cmpI fun x y z h => by
  cases x <;> cases y <;> first | (cases h; done) | skip
  cases h
  exact ⟨_, _, rfl, rfl, rfl⟩
theorem snd_ge {K : PySem.W.Frag} : Snd2 K geD (rI0 fun i j => .bl (decide (j ≤ i))) := snd_cmpI fun x y z h => by
  cases x <;> cases y <;> first | (cases h; done) | skip
  cases h
  exact ⟨_, _, rfl, rfl, rfl⟩
def rLtAny : R2 := rOr (rI0 fun i j => .bl (decide (i < j))) rLtS
theorem snd_lt {K : PySem.W.Frag} : Snd2 K ltD rLtAny := by
  intro W F R σ H env Q x y v w z S hx hy e p
  cases x <;> cases y <;> first | (cases e; done) | skip
  · cases hx; cases hy; cases e
    exact .inl ⟨_, _, rfl, rfl, post_d S p (.bl _)⟩
  · cases hx; cases hy; cases e
    exact .inr ⟨_, _, rfl, rfl, post_d S p (.bl _)⟩
def isNon : D → Bool
  | .non => true
  | _ => false
def isD : D → D → Option RV
  | x, .non => some (.d (.bl (isNon x)))
  | .bl a, .bl b => some (.d (.bl (a == b)))
  | _, _ => none
def isNotD (x y : D) : Option RV := match isD x y with
  | some (.d (.bl b)) => some (.d (.bl (!b)))
  | _ => none
def rIsAny : R2 := rOr rIsN rIsB
def rIsNotAny : R2 := rOr rNotN rNotB
theorem isN_of {K : PySem.W.Frag} {F H : Hp} {v : V} {x : D} (h : Vw K F H v x) : decide (v = .non) = (isNon x) := by
  cases x with
  | lst xs => obtain ⟨p, vs, rfl, _⟩ := h; rfl
  | dct ks vs => obtain ⟨p, es, rfl, _⟩ := h; rfl
  | dcu ks vs => obtain ⟨p, es, us, rfl, _⟩ := h; rfl
  | ins c ns xs => obtain ⟨p, C, dx, fs, rfl, _⟩ := h; rfl
  | _ => cases h; rfl
theorem snd_is {K : PySem.W.Frag} : Snd2 K isD rIsAny := by
  intro W F R σ H env Q x y v w z S hx hy e p
  cases y with
  | non =>
    cases hy
    have e' : z = .d (.bl (isNon x)) := by cases x <;> exact (Option.some.inj e).symm
    subst e'
    refine .inl ⟨rfl, ?_⟩
    rw [isN_of hx]
    exact post_d S p (.bl _)
  | bl b =>
    cases x with
    | bl a =>
      cases hx; cases hy; cases e
      refine .inr ⟨a, b, rfl, rfl, ?_⟩
      rw [show decide (a = b) = (a == b) by cases a <;> cases b <;> rfl]
      exact post_d S p (.bl _)
    | _ => cases e
  | _ => cases x <;> cases e
theorem snd_isNot {K : PySem.W.Frag} : Snd2 K isNotD rIsNotAny := by
  intro W F R σ H env Q x y v w z S hx hy e p
  cases y with
  | non =>
    cases hy
    have e' : z = .d (.bl (!(isNon x))) := by cases x <;> exact (Option.some.inj e).symm
    subst e'
    refine .inl ⟨rfl, ?_⟩
    rw [isN_of hx]
    exact post_d S p (.bl _)
  | bl b =>
    cases x with
    | bl a =>
      cases hx; cases hy; cases e
      refine .inr ⟨a, b, rfl, rfl, ?_⟩
      rw [show (!decide (a = b)) = (!(a == b)) by cases a <;> cases b <;> rfl]
      exact post_d S p (.bl _)
    | _ => cases e
  | _ => cases x <;> cases e
def toV : D → V
  | .non => .non
  | .bl b => .bl b
  | .int i => .int i
  | .str x => .str (mk x)
  | _ => .non
def inB (x : D) (ys : List D) : Bool := ys.any fun y => eqB y x
def inD (x y : D) : Option RV := match y with
  | .str s => match x with
    | .str [c] => some (.d (.bl (decide (c ∈ s))))
    | _ => none
  | .tup ys => if flatD x && ys.all flatD then some (.d (.bl (inB x ys))) else none
  | .lst ys => if (flatD x && ys.all flatD) || (shp x && shp (.lst ys)) then some (.d (.bl (inB x ys))) else none
  | _ => none
def notInD (x y : D) : Option RV := match inD x y with
  | some (.d (.bl b)) => some (.d (.bl (!b)))
  | _ => none
theorem flat_toV {K : PySem.W.Frag} {F : Hp} {v : V} {x : D} (h : Rel K F v x) (f : flatD x = true) : v = toV x ∧ flatV v = true := by
  cases x with
  | lst xs => cases f
  | tup xs => cases f
  | dct ks vs => cases f
  | dcu ks vs => cases f
  | ins c ns xs => cases f
  | _ => cases h; exact ⟨rfl, rfl⟩
theorem flat_all {K : PySem.W.Frag} {F : Hp} : ∀ {vs : List V} {xs : List D}, RelAll K F vs xs → xs.all flatD = true → vs = xs.map toV ∧ vs.all flatV = true
  | _, [], h, _ => by cases h; exact ⟨rfl, rfl⟩
  | _, x :: xs, h, f => by
    cases h with
    | cons a b =>
      rw [List.all_cons, Bool.and_eq_true] at f
      obtain ⟨e1, e2⟩ := flat_toV a f.1
      obtain ⟨e3, e4⟩ := flat_all b f.2
      exact ⟨by rw [List.map_cons, ← e1, ← e3], by rw [List.all_cons, e2, e4]; rfl⟩
theorem eqV_toV {x y : D} (fx : flatD x = true) (fy : flatD y = true) : eqV (toV x) (toV y) = eqB x y := by
  cases x <;> cases y <;> first | (cases fx; done) | (cases fy; done) | rfl | skip
  exact mk_beq _ _
theorem inV_toV {x : D} (fx : flatD x = true) : ∀ (ys : List D), ys.all flatD = true → inV (toV x) (ys.map toV) = inB x ys
  | [], _ => rfl
  | y :: ys, f => by
    rw [List.all_cons, Bool.and_eq_true] at f
    have := inV_toV fx ys f.2
    unfold inV inB at this ⊢
    rw [List.map_cons, List.any_cons, List.any_cons, eqV_toV f.1 fx, this]
theorem any_py (x : D) : ∀ ys : List D, ((pys ys).any fun z => PyData.eqv z (py x)) = inB x ys
  | [] => rfl
  | y :: ys => by
    have := any_py x ys
    unfold inB at this ⊢
    show ((PyData.eqv (py y) (py x)) || (pys ys).any fun z => PyData.eqv z (py x)) = _
    rw [this, eqv_py, List.any_cons]
theorem Vw.flat {K : PySem.W.Frag} {F H : Hp} {v : V} {x : D} (h : Vw K F H v x) (f : flatD x = true) : v = toV x ∧ flatV v = true := by
  cases x with
  | lst xs => cases f
  | tup xs => cases f
  | dct ks vs => cases f
  | dcu ks vs => cases f
  | ins c ns xs => cases f
  | _ => cases h; exact ⟨rfl, rfl⟩
def rInSgn : R2 := fun x y H Q => ∃ (c : Nat) (z : Str), x = .str ⟨#[c]⟩ ∧ y = .str z ∧ Q (.bl (decide (c ∈ z.cps.toList))) H
def rNiSgn : R2 := fun x y H Q => ∃ (c : Nat) (z : Str), x = .str ⟨#[c]⟩ ∧ y = .str z ∧ Q (.bl (!decide (c ∈ z.cps.toList))) H
def rInAny (K : PySem.W.Frag) : R2 := rOr rInSgn (rOr (rIn K false) (rInD K))
def rNiAny (K : PySem.W.Frag) : R2 := rOr rNiSgn (rOr (rIn K true) (rNotInD K))
theorem in_cases {K : PySem.W.Frag} {F H : Hp} {x y : D} {v w : V} {b : Bool} (e : Ex F H) (hx : Vw K F H v x) (hy : Vw K F H w y) (h : inD x y = some (.d (.bl b))) :
    (∃ (c : Nat) (z : Str), v = .str ⟨#[c]⟩ ∧ w = .str z ∧ b = decide (c ∈ z.cps.toList)) ∨ (∃ p xs, w = .ref p ∧ (SqL K H p xs ∨ SqT K H p xs) ∧ flatV v = true ∧ xs.all flatV = true ∧ b = inV v xs) ∨
    ∃ d ds, Dp K H v d ∧ Dp K H w (.list ds) ∧ SeqAt.shaped d = true ∧ SeqAt.shaped (.list ds) = true ∧ b = ds.any fun z => PyData.eqv z d := by
  cases y with
  | str s =>
    cases x with
    | str t =>
      match t, h, hx with
      | [c], h, hx =>
        cases hx; cases hy; cases h
        exact .inl ⟨c, mk s, rfl, rfl, rfl⟩
      | [], h, _ => cases h
      | _ :: _ :: _, h, _ => cases h
    | _ => cases h
  | tup ys =>
    obtain ⟨c, e1⟩ := some_if (show (if flatD x && ys.all flatD then some (RV.d (.bl (inB x ys))) else none) = _ from h)
    rw [Bool.and_eq_true] at c
    cases hy with
    | tup s r =>
      obtain ⟨a1, a2⟩ := hx.flat c.1
      obtain ⟨b1, b2⟩ := flat_all r c.2
      cases e1
      exact .inr (.inl ⟨_, _, rfl, .inr (ex_t e s), a2, b2, by rw [a1, b1, inV_toV c.1 ys c.2]⟩)
  | lst ys =>
    obtain ⟨c, e1⟩ := some_if (show (if (flatD x && ys.all flatD) || (shp x && shp (.lst ys)) then some (RV.d (.bl (inB x ys))) else none) = _ from h)
    cases e1
    rw [Bool.or_eq_true, Bool.and_eq_true, Bool.and_eq_true] at c
    rcases c with c | c
    · obtain ⟨p, vs, rfl, s, r⟩ := hy
      obtain ⟨a1, a2⟩ := hx.flat c.1
      obtain ⟨b1, b2⟩ := flat_all r c.2
      exact .inr (.inl ⟨_, _, rfl, .inl s, a2, b2, by rw [a1, b1, inV_toV c.1 ys c.2]⟩)
    · exact .inr (.inr ⟨py x, pys ys, (hx.rel e).dp _ (shp_pl c.1), (hy.rel e).dp _ (shp_pl c.2), c.1, c.2, (any_py x ys).symm⟩)
  | _ => cases h
theorem inD_bl {x y : D} {z : RV} (h : inD x y = some z) : ∃ b, z = .d (.bl b) := by
  cases y with
  | str s =>
    cases x with
    | str t =>
      match t, h with
      | [c], h => cases h; exact ⟨_, rfl⟩
      | [], h => cases h
      | _ :: _ :: _, h => cases h
    | _ => cases h
  | tup ys => exact ⟨_, (some_if (show (if flatD x && ys.all flatD then some (RV.d (.bl (inB x ys))) else none) = _ from h)).2.symm⟩
  | lst ys => exact ⟨_, (some_if (show (if (flatD x && ys.all flatD) || (shp x && shp (.lst ys)) then some (RV.d (.bl (inB x ys))) else none) = _ from h)).2.symm⟩
  | _ => cases h
theorem snd_in {K : PySem.W.Frag} : Snd2 K inD (rInAny K) := by
  intro W F R σ H env Q x y v w z S hx hy e p
  obtain ⟨b, rfl⟩ := inD_bl e
  have q := post_d S p (.bl b)
  rcases in_cases S.sub hx hy e with ⟨c, z, e1, e2, rfl⟩ | ⟨a, xs, e1, e2, e3, e4, rfl⟩ | ⟨d, ds, e1, e2, e3, e4, rfl⟩
  · exact .inl ⟨c, z, e1, e2, q⟩
  · exact .inr (.inl ⟨a, xs, e1, e2, e3, e4, q⟩)
  · exact .inr (.inr ⟨d, ds, e1, e2, e3, e4, q⟩)
theorem snd_ni {K : PySem.W.Frag} : Snd2 K notInD (rNiAny K) := by
  intro W F R σ H env Q x y v w z S hx hy e p
  unfold notInD at e
  cases hi : inD x y with
  | none => rw [hi] at e; cases e
  | some z' =>
    obtain ⟨b, rfl⟩ := inD_bl hi
    rw [hi] at e
    cases e
    have q := post_d S p (.bl (!b))
    rcases in_cases S.sub hx hy hi with ⟨c, z, e1, e2, rfl⟩ | ⟨a, xs, e1, e2, e3, e4, rfl⟩ | ⟨d, ds, e1, e2, e3, e4, rfl⟩
    · exact .inl ⟨c, z, e1, e2, q⟩
    · exact .inr (.inl ⟨a, xs, e1, e2, e3, e4, q⟩)
    · exact .inr (.inr ⟨d, ds, e1, e2, e3, e4, q⟩)
section
variable {X : Cx} {W : WX} {a b : Expr} {fa fb : SE} {pos : Pos}
theorem pd_eq (hu : X.A.units + 64 < cLine) (ha : PE X a (dE X.K W fa)) (hb : PE X b (dE X.K W fb)) : PE X (.Compare a [.Eq] [b] pos) (dE X.K W (two (op2 eqD) fa fb)) := pd_cmp (OpR.or op_eq (op_eqD hu)) snd_eq (nomark _) ha hb
end
end
end Dw
namespace Dw
noncomputable section
open PySem PySem.Spec PyProof.Rows L2
variable [Glo] [Tabs]
theorem _root_.L2.PT.wk {X : Cx} {e : Expr} {t u : TT} (h : PT X e t) (w : ∀ σ H Q, u σ H Q → t σ H Q) : PT X e u := ⟨fun pins s σ H Q I q => h.run pins s σ H Q I (w σ H Q q)⟩
theorem _root_.L2.PW.wk {X : Cx} {e : Expr} {t u : TT} (h : PW X e t) (w : ∀ σ H Q, u σ H Q → t σ H Q) : PW X e u := ⟨fun wh pins s σ H Q I q => h.run wh pins s σ H Q I (w σ H Q q)⟩
theorem _root_.L2.PA.wk {X : Cx} {e : List Expr} {t u : TA} (h : PA X e t) (w : ∀ σ H Q, u σ H Q → t σ H Q) : PA X e u := ⟨fun pos pins s σ H Q I q => h.run pos pins s σ H Q I (w σ H Q q)⟩
def truD : D → Option Bool
  | .non => some false
  | .bl b => some b
  | .int i => some (i != 0)
  | .str x => if x.length ≤ sizeLine then some (!x.isEmpty) else none
  | .lst xs => some (!xs.isEmpty)
  | .tup xs => some (!xs.isEmpty)
  | .dct _ _ => none
  | .dcu _ _ => none
  | .ins _ _ _ => none
def tru (a : RV) (env : Sl) : Option Bool := match pk a env with
  | some x => truD x
  | none => none
theorem isEmpty_rel {K : PySem.W.Frag} {F : Hp} {vs : List V} {xs : List D} (r : RelAll K F vs xs) : vs.isEmpty = xs.isEmpty := by
  cases r <;> rfl
theorem truD_ok {K : PySem.W.Frag} {F H : Hp} {v : V} {x : D} {k : Bool} (e : Ex F H) (h : Vw K F H v x) (t : truD x = some k) : TruV K v H k := by
  cases x with
  | non => cases h; cases t; rfl
  | bl b => cases h; cases t; rfl
  | int i => cases h; cases t; rfl
  | str x =>
    cases h
    obtain ⟨c, rfl⟩ := some_if t
    refine ⟨by rw [mk_len]; exact c, ?_⟩
    rw [mk_len]
    cases x with
    | nil => rfl
    | cons a l =>
      rw [List.length_cons]
      have : ((l.length + 1 : Nat) : Int) ≠ 0 := by omega
      simp [this]
      omega
  | lst xs =>
    obtain ⟨p, vs, rfl, s, r⟩ := h
    cases t
    exact .inl ⟨vs, s, by rw [isEmpty_rel r]⟩
  | tup xs =>
    cases h with
    | tup s r =>
      cases t
      exact .inr (.inl ⟨_, ex_t e s, by rw [isEmpty_rel r]⟩)
  | dct _ _ => cases t
  | dcu _ _ => cases t
  | ins _ _ _ => cases t
section
variable (K : PySem.W.Frag) (W : WX)
def PostT (F : Hp) (R : Fm) (σ : L2.St) (r : Re) (Q : Bool → Hp → Prop) : Prop :=
  match r with
  | .ok a env' => ∃ b, tru a env' = some b ∧ ∀ F' H', Ex F F' → Sta K F' R σ H' env' → Q b H'
  | .ex e env' => ∀ cls d F' H', Ex F F' → Sta K F' R σ H' env' → XnAt K F' e cls d → W cls d σ H'
def dT (f : SE) : TT := fun σ H Q => ∃ env F R r, Sta K F R σ H env ∧ f env = some r ∧ PostT K W F R σ r Q
end
section
variable {K : PySem.W.Frag} {W : WX} {F F' : Hp} {R : Fm} {σ : L2.St} {H H' : Hp} {env : Sl} {Q : Bool → Hp → Prop}
/-- a test by the value's truth -/
theorem dT_tru {f : SE} (h : dT K W f σ H Q) : dE K W f σ H fun x H' => ∃ k, TruV K x H' k ∧ Q k H' := by
  obtain ⟨env, F, R, r, S, e, p⟩ := h
  refine ⟨env, F, R, r, S, e, ?_⟩
  cases r with
  | ok a env' =>
    obtain ⟨b, hb, p⟩ := p
    intro v F' H' e1 S1 rv
    unfold tru at hb
    cases hx : pk a env' with
    | none => rw [hx] at hb; cases hb
    | some x =>
      rw [hx] at hb
      exact ⟨b, truD_ok S1.sub (pk_vw S1 rv hx) hb, p F' H' e1 S1⟩
  | ex x env' => exact p
end
section
variable {X : Cx} {W : WX} {a b : Expr} {fa fb fc : SE} {pos : Pos} {rest : List Expr}
theorem pt_d {e : Expr} {f : SE} (h : PE X e (dE X.K W f)) (he : ∀ whole, isTrue e X.env whole = (do let v ← whole; standAt e.pos; holding [v] (truthy v)) := by intro _; rfl) : PT X e (dT X.K W f) :=
  (pt_truth h he).wk fun _ _ _ q => dT_tru q
/-- a comparison as a test: what it gives is True or False -/
theorem pt_dcmp {op : CmpOp} {r : R2} {f : D → D → Option RV} (ho : OpR X (compareOp op) r) (hs : Snd2 X.K f r) (hf : ∀ x y z, f x y = some z → ∃ b, z = .d (.bl b)) (hm : behindInMarks op b = false) (ha : PE X a (dE X.K W fa)) (hb : PE X b (dE X.K W fb)) :
    PT X (.Compare a [op] [b] pos) (dT X.K W (two (op2 f) fa fb)) := by
  refine (pt_cmpR ho ha hb hm).wk fun σ H Q q => ?_
  have key : dE X.K W (two (op2 f) fa fb) σ H fun x H' => ∃ k, x = .bl k ∧ Q k H' := by
    obtain ⟨env, F, R, r, S, e, p⟩ := q
    refine ⟨env, F, R, r, S, e, ?_⟩
    cases r with
    | ok a' env' =>
      obtain ⟨k, hk, p⟩ := p
      -- the value is a bool
      have hb : ∃ c, a' = .d (.bl c) := by
        rcases bindE_inv e with ⟨a1, e1, _, h1⟩ | ⟨x, e1, _, h1⟩
        · rcases bindE_inv h1 with ⟨a2, e2, _, h2⟩ | ⟨x, e1, _, h2⟩
          · obtain ⟨x, y, z, _, _, h3, h4⟩ := op2_inv h2
            obtain ⟨c, rfl⟩ := hf x y z h3
            cases h4
            exact ⟨c, rfl⟩
          · cases h2
        · cases h1
      obtain ⟨c, rfl⟩ := hb
      have hc : c = k := Option.some.inj hk
      subst hc
      intro v F' H' e1 S1 rv
      cases (show Rel X.K F' v (.bl c) from rv)
      exact ⟨c, rfl, p F' H' e1 S1⟩
    | ex x env' => exact p
  exact dE_two key fun _ _ _ _ _ _ _ _ S h1 h2 h => op2_snd hs S h1 h2 h
def andE (fa fb : SE) : SE := fun env => bindE (fa env) fun a env1 => match tru a env1 with
  | some true => fb env1
  | some false => some (.ok a env1)
  | none => none
def orE (fa fb : SE) : SE := fun env => bindE (fa env) fun a env1 => match tru a env1 with
  | some true => some (.ok a env1)
  | some false => fb env1
  | none => none
def notE (fa : SE) : SE := fun env => bindE (fa env) fun a env1 => (tru a env1).map fun b => .ok (.d (.bl (!b))) env1
def ifE (fc fa fb : SE) : SE := fun env => bindE (fc env) fun c env1 => match tru c env1 with
  | some true => fa env1
  | some false => fb env1
  | none => none
end
section
variable {K : PySem.W.Frag} {W : WX} {F F' : Hp} {R : Fm} {σ : L2.St} {H : Hp}
theorem PostT.up {Q : Bool → Hp → Prop} (e : Ex F F') : ∀ {r : Re}, PostT K W F R σ r Q → PostT K W F' R σ r Q
  | .ok _ _, ⟨b, hb, h⟩ => ⟨b, hb, fun F2 H2 e2 s => h F2 H2 (e.trans e2) s⟩
  | .ex _ _, h => fun c d F2 H2 e2 s q => h c d F2 H2 (e.trans e2) s q
theorem dT_and {fa fb : SE} {Q : Bool → Hp → Prop} (h : dT K W (andE fa fb) σ H Q) : tAnd (dT K W fa) (dT K W fb) σ H Q := by
  obtain ⟨env, F, R, r, S, e, p⟩ := h
  rcases bindE_inv e with ⟨a, env1, h1, h2⟩ | ⟨x, env1, h1, rfl⟩
  · refine ⟨env, F, R, _, S, h1, ?_⟩
    cases ht : tru a env1 with
    | none => rw [ht] at h2; cases h2
    | some b =>
      rw [ht] at h2
      refine ⟨b, ht, fun F1 H1 e1 S1 => ?_⟩
      cases b with
      | true => exact iteT ⟨env1, F1, R, r, S1, h2, p.up e1⟩
      | false =>
        refine iteF ?_
        cases h2
        obtain ⟨b, hb, q⟩ := p
        rw [ht] at hb
        cases hb
        exact q F1 H1 e1 S1
  · exact ⟨env, F, R, _, S, h1, p⟩
theorem dT_or {fa fb : SE} {Q : Bool → Hp → Prop} (h : dT K W (orE fa fb) σ H Q) : tOr (dT K W fa) (dT K W fb) σ H Q := by
  obtain ⟨env, F, R, r, S, e, p⟩ := h
  rcases bindE_inv e with ⟨a, env1, h1, h2⟩ | ⟨x, env1, h1, rfl⟩
  · refine ⟨env, F, R, _, S, h1, ?_⟩
    cases ht : tru a env1 with
    | none => rw [ht] at h2; cases h2
    | some b =>
      rw [ht] at h2
      refine ⟨b, ht, fun F1 H1 e1 S1 => ?_⟩
      cases b with
      | false => exact iteF ⟨env1, F1, R, r, S1, h2, p.up e1⟩
      | true =>
        refine iteT ?_
        cases h2
        obtain ⟨b, hb, q⟩ := p
        rw [ht] at hb
        cases hb
        exact q F1 H1 e1 S1
  · exact ⟨env, F, R, _, S, h1, p⟩
theorem dT_not {fa : SE} {Q : Bool → Hp → Prop} (h : dT K W (notE fa) σ H Q) : tNot (dT K W fa) σ H Q := by
  obtain ⟨env, F, R, r, S, e, p⟩ := h
  rcases bindE_inv e with ⟨a, env1, h1, h2⟩ | ⟨x, env1, h1, rfl⟩
  · refine ⟨env, F, R, _, S, h1, ?_⟩
    cases ht : tru a env1 with
    | none => rw [ht] at h2; cases h2
    | some b =>
      rw [ht] at h2
      cases h2
      obtain ⟨c, hc, q⟩ := p
      cases hc
      exact ⟨b, ht, fun F1 H1 e1 S1 => q F1 H1 e1 S1⟩
  · exact ⟨env, F, R, _, S, h1, p⟩
theorem tru_of {F : Hp} {R : Fm} {env : Sl} {a : RV} {v : V} {k : Bool} (S : Sta K F R σ H env) (h : RvOk K F R σ H env v a) (t : tru a env = some k) : TruV K v H k := by
  unfold tru at t
  cases hx : pk a env with
  | none => rw [hx] at t; cases t
  | some x =>
    rw [hx] at t
    exact truD_ok S.sub (pk_vw S h hx) t
theorem dE_and {fa fb : SE} {Q : VK} (h : dE K W (andE fa fb) σ H Q) : tAndT K (dE K W fa) (dE K W fb) σ H Q := by
  refine dE_one (op := fun a env1 => match tru a env1 with | some true => fb env1 | some false => some (.ok a env1) | none => none) h fun a env F R v H1 S rv q => ?_
  obtain ⟨r, e, p⟩ := q
  dsimp only at e
  cases ht : tru a env with
  | none => rw [ht] at e; cases e
  | some b =>
    rw [ht] at e
    refine ⟨b, tru_of S rv ht, ?_⟩
    cases b with
    | true => exact iteT ⟨env, F, R, r, S, e, p⟩
    | false =>
      cases e
      exact iteF (p v F H1 (Ex.refl F) S rv)
theorem dE_or {fa fb : SE} {Q : VK} (h : dE K W (orE fa fb) σ H Q) : tOrT K (dE K W fa) (dE K W fb) σ H Q := by
  refine dE_one (op := fun a env1 => match tru a env1 with | some true => some (.ok a env1) | some false => fb env1 | none => none) h fun a env F R v H1 S rv q => ?_
  obtain ⟨r, e, p⟩ := q
  dsimp only at e
  cases ht : tru a env with
  | none => rw [ht] at e; cases e
  | some b =>
    rw [ht] at e
    refine ⟨b, tru_of S rv ht, ?_⟩
    cases b with
    | false => exact iteF ⟨env, F, R, r, S, e, p⟩
    | true =>
      cases e
      exact iteT (p v F H1 (Ex.refl F) S rv)
end
section
variable {X : Cx} {W : WX} {a b c : Expr} {fa fb fc : SE} {pos : Pos} {rest : List Expr}
theorem pw_dand1 (ha : PT X a (dT X.K W fa)) : PW X (.BoolOp .And [a] pos) (dT X.K W fa) := pw_and1 ha
theorem pw_dor1 (ha : PT X a (dT X.K W fa)) : PW X (.BoolOp .Or [a] pos) (dT X.K W fa) := pw_or1 ha
theorem pw_dand (ha : PT X a (dT X.K W fa)) (hb : PW X (.BoolOp .And (b :: rest) pos) (dT X.K W fb)) : PW X (.BoolOp .And (a :: b :: rest) pos) (dT X.K W (andE fa fb)) := (pw_and ha hb).wk fun _ _ _ q => dT_and q
theorem pw_dor (ha : PT X a (dT X.K W fa)) (hb : PW X (.BoolOp .Or (b :: rest) pos) (dT X.K W fb)) : PW X (.BoolOp .Or (a :: b :: rest) pos) (dT X.K W (orE fa fb)) := (pw_or ha hb).wk fun _ _ _ q => dT_or q
theorem pt_dnot (ha : PT X a (dT X.K W fa)) : PT X (.UnaryOp .Not a pos) (dT X.K W (notE fa)) := (pt_not ha).wk fun _ _ _ q => dT_not q
theorem pd_one {op} (h : PE X a (dE X.K W fa)) : PE X (.BoolOp op [a] pos) (dE X.K W fa) := pe_one h
theorem pd_and (ha : PE X a (dE X.K W fa)) (hb : PE X (.BoolOp .And (b :: rest) pos) (dE X.K W fb)) : PE X (.BoolOp .And (a :: b :: rest) pos) (dE X.K W (andE fa fb)) := (pe_andT ha hb).wk fun _ _ _ q => dE_and q
theorem pd_or (ha : PE X a (dE X.K W fa)) (hb : PE X (.BoolOp .Or (b :: rest) pos) (dE X.K W fb)) : PE X (.BoolOp .Or (a :: b :: rest) pos) (dE X.K W (orE fa fb)) := (pe_orT ha hb).wk fun _ _ _ q => dE_or q
theorem bl_eq {x y : D} {z : RV} (h : eqD x y = some z) : ∃ b, z = .d (.bl b) := ⟨_, (some_if h).2.symm⟩
theorem bl_ne {x y : D} {z : RV} (h : neD x y = some z) : ∃ b, z = .d (.bl b) := ⟨_, (some_if h).2.symm⟩
theorem bl_gt {x y : D} {z : RV} (h : gtD x y = some z) : ∃ b, z = .d (.bl b) := by cases x <;> cases y <;> first | (cases h; done) | (cases h; exact ⟨_, rfl⟩)
theorem bl_ge {x y : D} {z : RV} (h : geD x y = some z) : ∃ b, z = .d (.bl b) := by cases x <;> cases y <;> first | (cases h; done) | (cases h; exact ⟨_, rfl⟩)
theorem bl_is {x y : D} {z : RV} (h : isD x y = some z) : ∃ b, z = .d (.bl b) := by cases x <;> cases y <;> first | (cases h; done) | (cases h; exact ⟨_, rfl⟩)
theorem bl_isNot {x y : D} {z : RV} (h : isNotD x y = some z) : ∃ b, z = .d (.bl b) := by cases x <;> cases y <;> first | (cases h; done) | (cases h; exact ⟨_, rfl⟩)
theorem pt_eqd (hu : X.A.units + 64 < cLine) (ha : PE X a (dE X.K W fa)) (hb : PE X b (dE X.K W fb)) : PT X (.Compare a [.Eq] [b] pos) (dT X.K W (two (op2 eqD) fa fb)) := pt_dcmp (OpR.or op_eq (op_eqD hu)) snd_eq (fun _ _ _ => bl_eq) (nomark _) ha hb
theorem pt_ned (hu : X.A.units + 64 < cLine) (ha : PE X a (dE X.K W fa)) (hb : PE X b (dE X.K W fb)) : PT X (.Compare a [.NotEq] [b] pos) (dT X.K W (two (op2 neD) fa fb)) := pt_dcmp (OpR.or op_ne (op_neD hu)) snd_ne (fun _ _ _ => bl_ne) (nomark _) ha hb
theorem pt_gtd (ha : PE X a (dE X.K W fa)) (hb : PE X b (dE X.K W fb)) : PT X (.Compare a [.Gt] [b] pos) (dT X.K W (two (op2 gtD) fa fb)) := pt_dcmp op_gt snd_gt (fun _ _ _ => bl_gt) (nomark _) ha hb
theorem pt_ged (ha : PE X a (dE X.K W fa)) (hb : PE X b (dE X.K W fb)) : PT X (.Compare a [.GtE] [b] pos) (dT X.K W (two (op2 geD) fa fb)) := pt_dcmp op_ge snd_ge (fun _ _ _ => bl_ge) (nomark _) ha hb
theorem pt_isd (ha : PE X a (dE X.K W fa)) (hb : PE X b (dE X.K W fb)) : PT X (.Compare a [.Is] [b] pos) (dT X.K W (two (op2 isD) fa fb)) := pt_dcmp (OpR.or op_isN op_isBl) snd_is (fun _ _ _ => bl_is) (nomark _) ha hb
theorem pt_isNotd (ha : PE X a (dE X.K W fa)) (hb : PE X b (dE X.K W fb)) : PT X (.Compare a [.IsNot] [b] pos) (dT X.K W (two (op2 isNotD) fa fb)) := pt_dcmp (OpR.or op_notN op_notBl) snd_isNot (fun _ _ _ => bl_isNot) (nomark _) ha hb
end
end
end Dw
namespace Dw
noncomputable section
open PySem PySem.Spec PyProof.Rows L2
variable [Glo] [Tabs]
inductive ReA where
  | ok (as : List RV) (env : Sl) | ex (e : Xn) (env : Sl)
abbrev SA := Sl → Option ReA
def bindEA (x : Option Re) (k : RV → SA) : Option ReA :=
  match x with
  | some (.ok a env) => k a env
  | some (.ex e env) => some (.ex e env)
  | none => none
def bindA (x : Option ReA) (k : List RV → SE) : Option Re :=
  match x with
  | some (.ok as env) => k as env
  | some (.ex e env) => some (.ex e env)
  | none => none
@[simp] theorem bindEA_ok {a : RV} {env : Sl} {k : RV → SA} : bindEA (some (.ok a env)) k = k a env := rfl
@[simp] theorem bindEA_ex {e : Xn} {env : Sl} {k : RV → SA} : bindEA (some (.ex e env)) k = some (.ex e env) := rfl
@[simp] theorem bindEA_none {k : RV → SA} : bindEA none k = none := rfl
@[simp] theorem bindA_ok {a : List RV} {env : Sl} {k : List RV → SE} : bindA (some (.ok a env)) k = k a env := rfl
@[simp] theorem bindA_ex {e : Xn} {env : Sl} {k : List RV → SE} : bindA (some (.ex e env)) k = some (.ex e env) := rfl
@[simp] theorem bindA_none {k : List RV → SE} : bindA none k = none := rfl
def nilA : SA := fun env => some (.ok [] env)
def mapA (x : Option ReA) (g : List RV → List RV) : Option ReA :=
  match x with
  | some (.ok as env) => some (.ok (g as) env)
  | some (.ex e env) => some (.ex e env)
  | none => none
@[simp] theorem mapA_ok {a : List RV} {env : Sl} {g : List RV → List RV} : mapA (some (.ok a env)) g = some (.ok (g a) env) := rfl
@[simp] theorem mapA_ex {e : Xn} {env : Sl} {g : List RV → List RV} : mapA (some (.ex e env)) g = some (.ex e env) := rfl
@[simp] theorem mapA_none {g : List RV → List RV} : mapA none g = none := rfl
def consA (fa : SE) (fr : SA) : SA := fun env => bindEA (fa env) fun a env1 => mapA (fr env1) (a :: ·)
def HeldAll (K : PySem.W.Frag) (F : Hp) (R R' : Fm) (σ : L2.St) : List V → List RV → Prop
  | [], [] => True
  | v :: vs, a :: as => Held K F R R' σ v a ∧ (∀ c, a = .own c → ∀ w b, (w, b) ∈ vs.zip as → ∀ c', b = .own c' → w ≠ v) ∧ HeldAll K F R R' σ vs as
  | _, _ => False
section
variable (K : PySem.W.Frag) (W : WX)
def PostA (F : Hp) (R : Fm) (σ : L2.St) (r : ReA) (Q : List V → Hp → Prop) : Prop :=
  match r with
  | .ok as env' => ∀ vs F' H' R', Ex F F' → FEx R R' → Sta K F' R' σ H' env' → HeldAll K F' R R' σ vs as → Q vs H'
  | .ex e env' => ∀ cls d F' H', Ex F F' → Sta K F' R σ H' env' → XnAt K F' e cls d → W cls d σ H'
def dA (f : SA) : TA := fun σ H Q => ∃ env F R r, Sta K F R σ H env ∧ f env = some r ∧ PostA K W F R σ r Q
end
section
variable {K : PySem.W.Frag} {W : WX} {F F' : Hp} {R R' R2 : Fm} {σ : L2.St} {H H' : Hp} {env : Sl}
theorem FEx.trans {R R' R2 : Fm} (a : FEx R R') (b : FEx R' R2) : FEx R R2 := ⟨a.1.trans b.1, a.2.trans b.2⟩
theorem Held.low {v : V} {a : RV} (e : FEx R R') (h : Held K F R' R2 σ v a) : Held K F R R2 σ v a := by
  cases a with
  | d x => exact h
  | cv i => exact h
  | own c =>
    obtain ⟨p, o, e1, e2, e3, e4⟩ := h
    exact ⟨p, o, e1, ex_none e.1 e2, e3, e4⟩
theorem Held.high {v : V} {a : RV} (e : FEx R' R2) (h : Held K F R R' σ v a) : Held K F R R2 σ v a := by
  cases a with
  | d x => exact h
  | cv i => exact h
  | own c =>
    obtain ⟨p, o, e1, e2, e3, e4⟩ := h
    exact ⟨p, o, e1, e2, e.1 p o e3, e4⟩
theorem Held.up {v : V} {a : RV} (e : Ex F F') (h : Held K F R R' σ v a) : Held K F' R R' σ v a := by
  cases a with
  | d x => exact Rel.up e h
  | cv i => exact h
  | own c =>
    obtain ⟨p, o, e1, e2, e3, e4⟩ := h
    exact ⟨p, o, e1, e2, e3, e4.up e⟩
theorem HeldAll.low (e : FEx R R') : ∀ {vs : List V} {as : List RV}, HeldAll K F R' R2 σ vs as → HeldAll K F R R2 σ vs as
  | [], [], _ => trivial
  | v :: vs, a :: as, h => ⟨h.1.low e, h.2.1, HeldAll.low e h.2.2⟩
  | [], _ :: _, h => h.elim
  | _ :: _, [], h => h.elim
theorem heldAll_none : ∀ {vs : List V} {as : List RV}, HeldAll K F R R' σ vs as → ∀ w b, (w, b) ∈ vs.zip as → ∀ c', b = .own c' → ∃ q, w = .ref q ∧ R.r q = none
  | [], [], _, w, b, h, _, _ => by simp at h
  | v :: vs, a :: as, h, w, b, hm, c', hb => by
    rw [List.zip_cons_cons, List.mem_cons] at hm
    rcases hm with hm | hm
    · cases hm
      subst hb
      obtain ⟨p, o, e1, e2, _⟩ := h.1
      exact ⟨p, e1, e2⟩
    · exact heldAll_none h.2.2 w b hm c' hb
  | [], _ :: _, h, _, _, _, _, _ => h.elim
  | _ :: _, [], h, _, _, _, _, _ => h.elim
theorem dA_cons {fa : SE} {fr : SA} {Q : List V → Hp → Prop} (h : dA K W (consA fa fr) σ H Q) : tCons (dE K W fa) (dA K W fr) σ H Q := by
  obtain ⟨env, F, R, r, S, e, p⟩ := h
  have e : bindEA (fa env) (fun a env1 => mapA (fr env1) (a :: ·)) = some r := e
  cases h1 : fa env with
  | none => rw [h1] at e; cases e
  | some q =>
    rw [h1] at e
    cases q with
    | ex x env1 =>
      cases e
      exact ⟨env, F, R, _, S, h1, p⟩
    | ok a env1 =>
      rw [bindEA_ok] at e
      refine ⟨env, F, R, _, S, h1, fun v F1 H1 e1 S1 rv => ?_⟩
      obtain ⟨R1, eR, S1', hd⟩ := hold S1 rv
      cases h2 : fr env1 with
      | none => rw [h2] at e; cases e
      | some q2 =>
        rw [h2] at e
        cases q2 with
        | ex x env2 =>
          cases e
          exact ⟨env1, F1, R1, _, S1', h2, fun cls d F2 H2 e2 S2 hx => p cls d F2 H2 (e1.trans e2) (S2.unhold eR) hx⟩
        | ok as env2 =>
          cases e
          refine ⟨env1, F1, R1, _, S1', h2, fun vs F2 H2 R2 e2 eR2 S2 hvs => ?_⟩
          refine p (v :: vs) F2 H2 R2 (e1.trans e2) (eR.trans eR2) S2 ⟨(hd.up e2).high eR2, fun c ec w b hm c' hb => ?_, hvs.low eR⟩
          subst ec
          obtain ⟨q, e3, e4⟩ := heldAll_none hvs w b hm c' hb
          obtain ⟨q', o, e5, _, e6, _⟩ := hd
          subst e3
          subst e5
          intro z
          cases z
          rw [e4] at e6
          cases e6
end
section
variable {X : Cx} {W : WX} {e : Expr} {es : List Expr} {fa : SE} {fr : SA}
theorem pa_dnil : PA X [] (dA X.K W nilA) := pa_nil.wk fun σ H Q q => by
  obtain ⟨env, F, R, r, S, e, p⟩ := q
  cases e
  exact p [] F H R (Ex.refl F) (FEx.refl R) S trivial
theorem pa_dcons (ha : PE X e (dE X.K W fa)) (hr : PA X es (dA X.K W fr)) (hs : starEach (e :: es) X.env = (false, eval e X.env) :: starEach es X.env := by rfl) : PA X (e :: es) (dA X.K W (consA fa fr)) := (pa_cons ha hr hs).wk fun _ _ _ q => dA_cons q
end
def pks : List RV → Sl → Option (List D)
  | [], _ => some []
  | a :: as, env => (pk a env).bind fun x => (pks as env).map (x :: ·)
def VwAll (K : PySem.W.Frag) (F H : Hp) : List V → List D → Prop
  | [], [] => True
  | v :: vs, x :: xs => Vw K F H v x ∧ VwAll K F H vs xs
  | _, _ => False
section
variable {K : PySem.W.Frag} {W : WX} {F F' : Hp} {R R' : Fm} {σ : L2.St} {H H' : Hp} {env : Sl} {Q : VK}
theorem pks_vw (eR : FEx R R') (S : Sta K F R' σ H env) : ∀ {vs : List V} {as : List RV} {xs : List D}, HeldAll K F R R' σ vs as → pks as env = some xs → VwAll K F H vs xs
  | [], [], xs, _, e => by cases e; trivial
  | v :: vs, a :: as, xs, h, e => by
    have e : ((pk a env).bind fun x => (pks as env).map (x :: ·)) = some xs := e
    rw [Option.bind_eq_some_iff] at e
    obtain ⟨x, h1, e⟩ := e
    rw [Option.map_eq_some_iff] at e
    obtain ⟨ys, h2, rfl⟩ := e
    exact ⟨pk_vw (S.unhold eR) (unheld (Ex.refl F) eR S h.1) h1, pks_vw eR S h.2.2 h2⟩
  | [], _ :: _, _, h, _ => h.elim
  | _ :: _, [], _, h, _ => h.elim
/-- what a call of a built-in makes of what it sees -/
def callE (f : List D → Option RV) (fa : SA) : SE := fun env => bindA (fa env) fun as env1 => (pks as env1).bind fun xs => (f xs).map (Re.ok · env1)
def SndC (K : PySem.W.Frag) (f : List D → Option RV) (r : List V → Hp → VK → Prop) : Prop := ∀ {W : WX} {F : Hp} {R : Fm} {σ : L2.St} {H : Hp} {env : Sl} {Q : VK} {xs : List D} {vs : List V} {z : RV},
  Sta K F R σ H env → VwAll K F H vs xs → f xs = some z → PostE K W F R σ (.ok z env) Q → r vs H Q
theorem dE_callB {f : List D → Option RV} {r : List V → Hp → VK → Prop} {fa : SA} (hs : SndC K f r) (h : dE K W (callE f fa) σ H Q) : tCB r (dA K W fa) σ H Q := by
  obtain ⟨env, F, R, r', S, e, p⟩ := h
  have e : bindA (fa env) (fun as env1 => (pks as env1).bind fun xs => (f xs).map (Re.ok · env1)) = some r' := e
  cases h1 : fa env with
  | none => rw [h1] at e; cases e
  | some q =>
    rw [h1] at e
    cases q with
    | ex x env1 =>
      cases e
      exact ⟨env, F, R, _, S, h1, p⟩
    | ok as env1 =>
      rw [bindA_ok, Option.bind_eq_some_iff] at e
      obtain ⟨xs, h2, e⟩ := e
      rw [Option.map_eq_some_iff] at e
      obtain ⟨z, h3, rfl⟩ := e
      exact ⟨env, F, R, _, S, h1, fun vs F1 H1 R1 e1 eR S1 hv => hs (S1.unhold eR) (pks_vw eR S1 hv h2) h3 (p.up e1)⟩
end
section
variable {X : Cx} {W : WX} {x : Str} {p pos : Pos} {e : Expr} {es : List Expr} {fa : SA} {id T : String} {f : List D → Option RV} {r : List V → Hp → VK → Prop}
theorem pd_callB (hc : CallR X (.builtin id) r) (hs : SndC X.K f r) (hm : X.mg x = none) (hv : bootBuiltins x = some (.builtin id)) (ha : PA X (e :: es) (dA X.K W fa)) (hg : Gl X x := by rfl) (hn : x ≠ "__name__" := by decide) (hdb : (x == ("__debug__" : Str)) = false := by decide)
    (he : starEach (e :: es) X.env = (false, eval e X.env) :: starEach es X.env := by rfl) (hpl : (backTo pos (starEach es X.env)).any (·.1) = false := by rfl) : PE X (.Call (.Name x p) (e :: es) [] pos) (dE X.K W (callE f fa)) :=
  (pe_callB hc hg hm hv ha hn hdb he hpl).wk fun _ _ _ q => dE_callB hs q
theorem pd_callTy (hc : CallR X (.type T) r) (hs : SndC X.K f r) (hm : X.mg x = none) (hv : bootBuiltins x = some (.type T)) (ha : PA X (e :: es) (dA X.K W fa)) (hg : Gl X x := by rfl) (hn : x ≠ "__name__" := by decide) (hdb : (x == ("__debug__" : Str)) = false := by decide)
    (he : starEach (e :: es) X.env = (false, eval e X.env) :: starEach es X.env := by rfl) (hpl : (backTo pos (starEach es X.env)).any (·.1) = false := by rfl) : PE X (.Call (.Name x p) (e :: es) [] pos) (dE X.K W (callE f fa)) :=
  (pe_callTy hc hg hm hv ha hn hdb he hpl).wk fun _ _ _ q => dE_callB hs q
end
theorem CallR.or {X : Cx} {f : Value} {r r' : List V → Hp → VK → Prop} (h : CallR X f r) (h' : CallR X f r') : CallR X f (fun xs H Q => r xs H Q ∨ r' xs H Q) := by
  intro pins s σ H xs us Q I rr q
  rcases q with q | q
  · exact h pins s σ H xs us Q I rr q
  · exact h' pins s σ H xs us Q I rr q
def getD : D → D → Option RV
  | .lst xs, .int i => (atI xs i).map .d
  | .tup xs, .int i => (atI xs i).map .d
  | .str x, .int i => if x.length ≤ sizeLine then (atI x i).map fun c => .d (.str [c]) else none
  | _, _ => none
theorem RelAll.atI {K : PySem.W.Frag} {F : Hp} {vs : List V} {xs : List D} {i : Int} {x : D} (r : RelAll K F vs xs) (h : L2.atI xs i = some x) : ∃ v, L2.atI vs i = some v ∧ Rel K F v x := by
  unfold L2.atI at h ⊢
  rw [Option.bind_eq_some_iff] at h
  obtain ⟨j, h1, h2⟩ := h
  rw [r.len, h1]
  obtain ⟨v, e, rv⟩ := r.getD h2
  exact ⟨v, e, rv⟩
theorem snd_get {K : PySem.W.Frag} : Snd2 K getD (rIx K) := by
  intro W F R σ H env Q x y v w z S hx hy e p
  cases y with
  | int i =>
    cases hy
    cases x with
    | lst xs =>
      obtain ⟨a, vs, rfl, s, r⟩ := hx
      have e : (L2.atI xs i).map RV.d = some z := e
      rw [Option.map_eq_some_iff] at e
      obtain ⟨d, h1, rfl⟩ := e
      obtain ⟨u, h2, ru⟩ := r.atI h1
      exact .inl ⟨a, vs, i, u, rfl, rfl, s, h2, post_d S p ru⟩
    | tup xs =>
      cases hx with
      | tup s r =>
        have e : (L2.atI xs i).map RV.d = some z := e
        rw [Option.map_eq_some_iff] at e
        obtain ⟨d, h1, rfl⟩ := e
        obtain ⟨u, h2, ru⟩ := r.atI h1
        exact .inr (.inl ⟨_, _, i, u, rfl, rfl, ex_t S.sub s, h2, post_d S p ru⟩)
    | str x =>
      cases hx
      have e : (if x.length ≤ sizeLine then (L2.atI x i).map fun c => RV.d (.str [c]) else none) = some z := e
      by_cases hl : x.length ≤ sizeLine
      · rw [if_pos hl, Option.map_eq_some_iff] at e
        obtain ⟨c, h1, rfl⟩ := e
        exact .inr (.inr ⟨mk x, i, c, rfl, rfl, by rw [mk_len]; exact hl, h1, post_d S p (.str [c])⟩)
      · rw [if_neg hl] at e
        cases e
    | _ => cases e
  | _ => cases x <;> cases e
section
variable {X : Cx} {W : WX} {a b : Expr} {fa fb : SE} {pos : Pos}
theorem pd_get (ha : PE X a (dE X.K W fa)) (hb : PE X b (dE X.K W fb)) (hs : PlainIx b := by exact fun _ _ => rfl) : PE X (.Subscript a b pos) (dE X.K W (two (op2 getD) fa fb)) :=
  (pe_ix ix_seq ha hb hs).wk fun σ H Q q => dE_two q fun _ _ _ _ _ _ _ _ S h1 h2 h => op2_snd snd_get S h1 h2 h
end
def cutL {α : Type} (xs : List α) (lo hi : Option Int) : List α := (xs.drop (HT.sIx xs.length 0 lo)).take (HT.sIx xs.length xs.length hi - HT.sIx xs.length 0 lo)
theorem cutS_L (x : List Nat) (lo hi : Option Int) : cutS (mk x) lo hi = mk (cutL x lo hi) := by
  unfold cutS cutL mk
  simp [Str.length]
def bindO (fo : Option SE) (env : Sl) (k : Option Int → SE) : Option Re :=
  match fo with
  | none => k none env
  | some f => bindE (f env) fun b env1 => match pk b env1 with
    | some (.int i) => k (some i) env1
    | _ => none
def cutD (x : D) (lo hi : Option Int) : Option RV := match x with
  | .lst xs => some (.own (.lst (cutL xs lo hi)))
  | .tup xs => some (.d (.tup (cutL xs lo hi)))
  | .str x => if x.length ≤ sizeLine then some (.d (.str (cutL x lo hi))) else none
  | _ => none
def sliceE (fe : SE) (fl fh : Option SE) : SE := fun env => bindE (fe env) fun a env1 => bindO fl env1 fun lo env2 => bindO fh env2 fun hi env3 => (pk a env3).bind fun x => (cutD x lo hi).map (Re.ok · env3)
def tO (K : PySem.W.Frag) (W : WX) : Option SE → TO
  | none => tNoPart
  | some f => tPart (dE K W f)
theorem RelAll.cut {K : PySem.W.Frag} {F : Hp} {vs : List V} {xs : List D} (r : RelAll K F vs xs) (lo hi : Option Int) : RelAll K F (cutL vs lo hi) (cutL xs lo hi) := by
  unfold cutL
  rw [r.len]
  exact (r.drop _).take _
theorem cut_whole {α : Type} {xs : List α} {lo hi : Option Int} (h : HT.sIx xs.length 0 lo = 0 ∧ HT.sIx xs.length xs.length hi = xs.length) : cutL xs lo hi = xs := by
  unfold cutL
  rw [h.1, h.2, List.drop_zero, Nat.sub_zero, List.take_length]
def rSlAny (K : PySem.W.Frag) : V → Option Int → Option Int → Hp → VK → Prop := fun x lo hi H Q => rSlL K x lo hi H Q ∨ rSlA K x lo hi H Q ∨ rSlS x lo hi H Q
theorem sl_any {X : Cx} : SlR X (rSlAny X.K) := SlR.or sl_list (SlR.or sl_tupA sl_str)
section
variable {K : PySem.W.Frag} {W : WX} {F F' : Hp} {R R' : Fm} {σ : L2.St} {H H' : Hp} {env : Sl} {Q : VK}
theorem snd_cut {x : D} {v : V} {lo hi : Option Int} {z : RV} (S : Sta K F R σ H env) (hx : Vw K F H v x) (e : cutD x lo hi = some z) (p : PostE K W F R σ (.ok z env) Q) : rSlAny K v lo hi H Q := by
  cases x with
  | lst xs =>
    obtain ⟨a, vs, rfl, s, r⟩ := hx
    cases e
    exact .inl ⟨a, vs, rfl, s, fun q hq => post_new S p hq (r.cut lo hi)⟩
  | tup xs =>
    cases hx with
    | tup s r =>
      cases e
      refine .inr (.inl ⟨_, _, rfl, ex_t S.sub s, fun hw => ?_, fun _ q hq => post_tup S p hq (r.cut lo hi)⟩)
      rw [r.len] at hw
      rw [cut_whole hw] at p
      exact post_d S p (.tup s r)
  | str x =>
    cases hx
    obtain ⟨c, rfl⟩ := some_if e
    refine .inr (.inr ⟨mk x, rfl, by rw [mk_len]; exact c, ?_⟩)
    rw [cutS_L]
    exact post_d S p (.str _)
  | _ => cases e
/-- one part, something held meanwhile -/
theorem tO_ok {fo : Option SE} {k : Option Int → SE} {Q1 : Option Int → Hp → Prop} (eR : FEx R R') (S : Sta K F R' σ H env) (h : atE K W (fun env => bindO fo env k) F R σ env Q)
    (hk : ∀ i env1 F1 H1, Ex F F1 → Sta K F1 R' σ H1 env1 → atE K W (k i) F1 R σ env1 Q → Q1 i H1) : tO K W fo σ H Q1 := by
  cases fo with
  | none => exact hk none env F H (Ex.refl F) S h
  | some f =>
    refine dE_of S (atE_bindR (k := fun b env1 => match pk b env1 with | some (.int i) => k (some i) env1 | _ => none) eR h fun b env1 F1 w H1 e1 S1 rw' q => ?_)
    obtain ⟨r, e, p⟩ := q
    dsimp only at e
    cases hx : pk b env1 with
    | none => rw [hx] at e; cases e
    | some x =>
      rw [hx] at e
      cases x with
      | int i =>
        cases (show Rel K F1 w (.int i) from pk_vw S1 rw' hx)
        exact ⟨i, rfl, hk (some i) env1 F1 H1 e1 S1 ⟨r, e, p⟩⟩
      | _ => cases e
theorem dE_slice {fe : SE} {fl fh : Option SE} (h : dE K W (sliceE fe fl fh) σ H Q) : tSl (rSlAny K) (dE K W fe) (tO K W fl) (tO K W fh) σ H Q := by
  obtain ⟨env, F, R, S, q⟩ := of_dE h
  refine dE_of S (atE_bind q fun a env1 F1 v H1 e1 S1 rv q1 => ?_)
  obtain ⟨R', eR, S1', hd⟩ := hold S1 rv
  refine tO_ok eR S1' q1 fun lo env2 F2 H2 e2 S2 q2 => tO_ok eR S2 q2 fun hi env3 F3 H3 e3 S3 q3 => ?_
  obtain ⟨r, e, p⟩ := q3
  dsimp only at e
  rw [Option.bind_eq_some_iff] at e
  obtain ⟨x, h1, e⟩ := e
  rw [Option.map_eq_some_iff] at e
  obtain ⟨z, h2, rfl⟩ := e
  exact snd_cut (S3.unhold eR) (pk_vw (S3.unhold eR) (unheld (e2.trans e3) eR S3 hd) h1) h2 p
end
section
variable {X : Cx} {W : WX} {e : Expr} {lo hi : Option Expr} {fe f : SE} {fl fh : Option SE} {pos p2 : Pos}
theorem po_dnone : PO X none (tO X.K W none) := po_none
theorem po_dsome {e : Expr} (h : PE X e (dE X.K W f)) : PO X (some e) (tO X.K W (some f)) := po_some h
theorem pd_slice (he : PE X e (dE X.K W fe)) (hl : PO X lo (tO X.K W fl)) (hu : PO X hi (tO X.K W fh)) : PE X (.Subscript e (.Slice lo hi none p2) pos) (dE X.K W (sliceE fe fl fh)) :=
  (pe_slice sl_any he hl hu).wk fun _ _ _ q => dE_slice q
end
end
end Dw
namespace Dw
noncomputable section
open PySem PySem.Spec PyProof.Rows L2
variable [Glo] [Tabs]
def frzs : List RV → Sl → Option (List D × Sl)
  | [], env => some ([], env)
  | a :: as, env => (frz a env).bind fun p => (frzs as p.2).map fun q => (p.1 :: q.1, q.2)
section
variable {K : PySem.W.Frag} {W : WX} {F F' : Hp} {R R' R2 : Fm} {σ : L2.St} {H H' : Hp} {env env' : Sl} {Q : VK}
/-- one held value is frozen: the others stay held -/
theorem frz_held {a : RV} {v : V} {x : D} (eR : FEx R R') (S : Sta K F R' σ H env) (h : Held K F R R' σ v a) (e : frz a env = some (x, env')) :
    ∃ F' R2, Ex F F' ∧ FEx R R2 ∧ Sta K F' R2 σ H env' ∧ Rel K F' v x ∧ ∀ w b, (∀ c c', a = .own c → b = .own c' → w ≠ v) → Held K F R R' σ w b → Held K F' R R2 σ w b := by
  cases a with
  | d y => cases e; exact ⟨F, R', Ex.refl F, eR, S, h, fun _ _ _ q => q⟩
  | cv i =>
    obtain ⟨F', e1, S', r⟩ := frz_ok (a := .cv i) S (show RvOk K F R' σ H env v (.cv i) from h) e
    exact ⟨F', R', e1, eR, S', r, fun w b _ q => q.up e1⟩
  | own c =>
    cases e
    obtain ⟨p, o, rfl, hR, hp, ho⟩ := h
    have hF : F p = none := S.dis p _ hp
    have eF : Ex F (upd F p o) := Ex.new hF
    refine ⟨upd F p o, ⟨fun b => if b = p then none else R'.r b, R'.t, R'.T⟩, eF, ⟨fun b u q => ?_, eR.2⟩, ⟨fun b u q => ?_, fun b u q => ?_, fun b u q => ?_, S.len, fun i x q => ?_, fun i b c q => ?_, S.tag, S.inj, S.xnUp eF, fun P h => (by
      obtain ⟨h1, h2, h3⟩ := S.tab P h
      have n : P ≠ p := fun z => by rw [z, hp] at h3; cases h3
      exact ⟨h1.up eF, by rw [upd_ne n]; exact h2, by show (if P = p then none else R'.r P) = none; rw [if_neg n]; exact h3⟩)⟩, CellOk.rel upd_same (ho.up eF), fun w b hne q => ?_⟩
    · show (if b = p then none else R'.r b) = some u
      rw [if_neg (fun z => by rw [z, hR] at q; cases q)]
      exact eR.1 b u q
    · by_cases hb : b = p
      · subst hb; rw [upd_same] at q; cases q; exact S.fr b _ hp
      · rw [upd_ne hb] at q; exact S.sub b u q
    · have q : (if b = p then none else R'.r b) = some u := q
      by_cases hb : b = p
      · rw [if_pos hb] at q; cases q
      · rw [if_neg hb] at q; exact S.fr b u q
    · have q : (if b = p then none else R'.r b) = some u := q
      by_cases hb : b = p
      · rw [if_pos hb] at q; cases q
      · rw [if_neg hb] at q
        rw [upd_ne hb]; exact S.dis b u q
    · obtain ⟨v, e1, r⟩ := S.dat i x q
      exact ⟨v, e1, r.up eF⟩
    · obtain ⟨q1, u, e2, e3, e4, e5, e6⟩ := S.own i b c q
      have hb : q1 ≠ p := fun z => by rw [z, hp] at e4; cases e4
      exact ⟨q1, u, e2, by rw [upd_ne hb]; exact e3, by show (if q1 = p then none else R'.r q1) = none; rw [if_neg hb]; exact e4, e5, e6.up eF⟩
    · cases b with
      | d y => exact Rel.up eF q
      | cv i => exact q
      | own c' =>
        obtain ⟨p', o', rfl, h1, h2, h3⟩ := q
        have hb : p' ≠ p := fun z => hne _ _ rfl rfl (by rw [z])
        exact ⟨p', o', rfl, h1, by show (if p' = p then none else R'.r p') = some o'; rw [if_neg hb]; exact h2, h3.up eF⟩
theorem frzs_held : ∀ {as : List RV} {vs : List V} {xs : List D} {env env' : Sl} {F : Hp} {R' : Fm}, FEx R R' → Sta K F R' σ H env → HeldAll K F R R' σ vs as → frzs as env = some (xs, env') →
    ∃ F' R2, Ex F F' ∧ FEx R R2 ∧ Sta K F' R2 σ H env' ∧ RelAll K F' vs xs
  | [], [], xs, env, env', F, R', eR, S, _, e => by
    cases e
    exact ⟨F, R', Ex.refl F, eR, S, .nil⟩
  | a :: as, v :: vs, xs, env, env', F, R', eR, S, h, e => by
    have e : ((frz a env).bind fun p => (frzs as p.2).map fun q => (p.1 :: q.1, q.2)) = some (xs, env') := e
    rw [Option.bind_eq_some_iff] at e
    obtain ⟨⟨x, env1⟩, h1, e⟩ := e
    rw [Option.map_eq_some_iff] at e
    obtain ⟨⟨ys, env2⟩, h2, e⟩ := e
    cases e
    obtain ⟨F1, R1, e1, eR1, S1, r1, keep⟩ := frz_held eR S h.1 h1
    have all : ∀ {vs : List V} {as : List RV}, (∀ c, a = .own c → ∀ w b, (w, b) ∈ vs.zip as → ∀ c', b = .own c' → w ≠ v) → HeldAll K F R R' σ vs as → HeldAll K F1 R R1 σ vs as := by
      intro vs
      induction vs with
      | nil => intro as _ h; cases as with
        | nil => trivial
        | cons _ _ => exact h.elim
      | cons w ws ih =>
        intro as hne h
        cases as with
        | nil => exact h.elim
        | cons b bs =>
          exact ⟨keep w b (fun c c' e1 e2 => hne c e1 w b (by simp) c' e2) h.1, h.2.1, ih (fun c e1 w b hm c' e2 => hne c e1 w b (by rw [List.zip_cons_cons]; exact List.mem_cons_of_mem _ hm) c' e2) h.2.2⟩
    obtain ⟨F2, R2, e2, eR2, S2, r2⟩ := frzs_held eR1 S1 (all h.2.1 h.2.2) h2
    exact ⟨F2, R2, e1.trans e2, eR2, S2, .cons (r1.up e2) r2⟩
  | [], _ :: _, _, _, _, _, _, _, _, h, _ => h.elim
  | _ :: _, [], _, _, _, _, _, _, _, h, _ => h.elim
def tupE (fa : SA) : SE := fun env => bindA (fa env) fun as env1 => (frzs as env1).bind fun p => if p.1.length ≤ 100000 then some (.ok (.d (.tup p.1)) p.2) else none
def lstE (fa : SA) : SE := fun env => bindA (fa env) fun as env1 => (frzs as env1).bind fun p => if p.1.length ≤ 100000 then some (.ok (.own (.lst p.1)) p.2) else none
theorem bindA_inv {x : Option ReA} {k : List RV → SE} {r : Re} (h : bindA x k = some r) : (∃ as env1, x = some (.ok as env1) ∧ k as env1 = some r) ∨ ∃ e env1, x = some (.ex e env1) ∧ r = .ex e env1 := by
  cases x with
  | none => cases h
  | some q =>
    cases q with
    | ok a env1 => exact .inl ⟨a, env1, rfl, h⟩
    | ex e env1 => exact .inr ⟨e, env1, rfl, (Option.some.inj h).symm⟩
theorem sz_of {n : Nat} (h : n ≤ 100000) : n ≤ sizeLine := Nat.le_trans h (by decide)
theorem dE_tup {fa : SA} (h : dE K W (tupE fa) σ H Q) : tTup (dA K W fa) σ H Q := by
  obtain ⟨env, F, R, r, S, e, p⟩ := h
  rcases bindA_inv e with ⟨as, env1, h1, h2⟩ | ⟨x, env1, h1, rfl⟩
  · rw [Option.bind_eq_some_iff] at h2
    obtain ⟨⟨xs, env2⟩, h3, h4⟩ := h2
    obtain ⟨c, rfl⟩ := some_if h4
    refine ⟨env, F, R, _, S, h1, fun vs F1 H1 R1 e1 eR S1 hv => ?_⟩
    obtain ⟨F2, R2, e2, eR2, S2, rr⟩ := frzs_held eR S1 hv h3
    exact ⟨sz_of (by rw [rr.len]; exact c), fun q hq => post_tup (S2.unhold eR2) (p.up (e1.trans e2)) hq rr⟩
  · exact ⟨env, F, R, _, S, h1, p⟩
theorem dE_lst {fa : SA} (h : dE K W (lstE fa) σ H Q) : tLst (dA K W fa) σ H Q := by
  obtain ⟨env, F, R, r, S, e, p⟩ := h
  rcases bindA_inv e with ⟨as, env1, h1, h2⟩ | ⟨x, env1, h1, rfl⟩
  · rw [Option.bind_eq_some_iff] at h2
    obtain ⟨⟨xs, env2⟩, h3, h4⟩ := h2
    obtain ⟨c, rfl⟩ := some_if h4
    refine ⟨env, F, R, _, S, h1, fun vs F1 H1 R1 e1 eR S1 hv => ?_⟩
    obtain ⟨F2, R2, e2, eR2, S2, rr⟩ := frzs_held eR S1 hv h3
    exact ⟨sz_of (by rw [rr.len]; exact c), fun q hq => post_new (S2.unhold eR2) (p.up (e1.trans e2)) hq rr⟩
  · exact ⟨env, F, R, _, S, h1, p⟩
end
section
variable {X : Cx} {W : WX} {es : List Expr} {fa : SA} {pos : Pos}
theorem pd_tup {x1} (h : PA X es (dA X.K W fa)) : PE X (.Tuple es x1 pos) (dE X.K W (tupE fa)) := (pe_tup h).wk fun _ _ _ q => dE_tup q
theorem pd_lst (h : PA X es (dA X.K W fa)) : PE X (.List es pos) (dE X.K W (lstE fa)) := (pe_lst h).wk fun _ _ _ q => dE_lst q
end
theorem vw1 {K : PySem.W.Frag} {F H : Hp} {vs : List V} {x : D} (h : VwAll K F H vs [x]) : ∃ v, vs = [v] ∧ Vw K F H v x := by
  match vs, h with
  | [v], h => exact ⟨v, rfl, h.1⟩
  | [], h => exact h.elim
  | _ :: _ :: _, h => exact h.2.elim
theorem vw2 {K : PySem.W.Frag} {F H : Hp} {vs : List V} {x y : D} (h : VwAll K F H vs [x, y]) : ∃ v w, vs = [v, w] ∧ Vw K F H v x ∧ Vw K F H w y := by
  match vs, h with
  | [v, w], h => exact ⟨v, w, rfl, h.1, h.2.1⟩
  | [], h => exact h.elim
  | [_], h => exact h.2.elim
  | _ :: _ :: _ :: _, h => exact h.2.2.elim
def lenD : List D → Option RV
  | [.lst xs] => some (.d (.int xs.length))
  | [.tup xs] => some (.d (.int xs.length))
  | [.str x] => if x.length ≤ sizeLine then some (.d (.int x.length)) else none
  | _ => none
def rLenAny (K : PySem.W.Frag) : List V → Hp → VK → Prop := fun xs H Q => (∃ p ys, xs = [.ref p] ∧ (SqL K H p ys ∨ SqT K H p ys) ∧ Q (.int ys.length) H) ∨ ∃ z, xs = [.str z] ∧ z.length ≤ sizeLine ∧ Q (.int z.length) H
theorem cr_len {X : Cx} : CallR X (.builtin "len") (rLenAny X.K) := CallR.or call_len_seq call_len_str
theorem snd_len {K : PySem.W.Frag} : SndC K lenD (rLenAny K) := by
  intro W F R σ H env Q xs vs z S h e p
  match xs, h, e with
  | [.lst ys], h, e =>
    cases e
    obtain ⟨v, rfl, a, us, rfl, s, r⟩ := vw1 h
    refine .inl ⟨a, us, rfl, .inl s, ?_⟩
    rw [r.len]
    exact post_d S p (.int _)
  | [.tup ys], h, e =>
    cases e
    obtain ⟨v, rfl, hv⟩ := vw1 h
    cases hv with
    | tup s r =>
      refine .inl ⟨_, _, rfl, .inr (ex_t S.sub s), ?_⟩
      rw [r.len]
      exact post_d S p (.int _)
  | [.str x], h, e =>
    obtain ⟨c, rfl⟩ := some_if e
    obtain ⟨v, rfl, hv⟩ := vw1 h
    cases hv
    refine .inr ⟨mk x, rfl, by rw [mk_len]; exact c, ?_⟩
    rw [mk_len]
    exact post_d S p (.int _)
def intC : List D → Option RV
  | [.int i] => some (.d (.int i))
  | [.bl b] => some (.d (.int (b2i b)))
  | _ => none
def listC : List D → Option RV
  | [.lst xs] => some (.own (.lst xs))
  | [.tup xs] => some (.own (.lst xs))
  | _ => none
def rListC (K : PySem.W.Frag) : List V → Hp → VK → Prop := fun xs H Q => ∃ p ys, xs = [.ref p] ∧ (SqL K H p ys ∨ SqT K H p ys) ∧ ∀ l, H l = none → Q (.ref l) (upd H l (.lst ys))
theorem snd_list {K : PySem.W.Frag} : SndC K listC (rListC K) := by
  intro W F R σ H env Q xs vs z S h e p
  match xs, h, e with
  | [.lst ys], h, e =>
    cases e
    obtain ⟨v, rfl, a, us, rfl, s, r⟩ := vw1 h
    exact ⟨a, us, rfl, .inl s, fun q hq => post_new S p hq r⟩
  | [.tup ys], h, e =>
    cases e
    obtain ⟨v, rfl, hv⟩ := vw1 h
    cases hv with
    | tup s r => exact ⟨_, _, rfl, .inr (ex_t S.sub s), fun q hq => post_new S p hq r⟩
def tupleC : List D → Option RV
  | [.lst xs] => some (.d (.tup xs))
  | [.tup xs] => some (.d (.tup xs))
  | _ => none
def rTupleC (K : PySem.W.Frag) : List V → Hp → VK → Prop := fun xs H Q => ∃ p ys, xs = [.ref p] ∧ ((SqL K H p ys ∧ ∀ l, H l = none → Q (.ref l) (upd H l (.tup ys))) ∨ (SqT K H p ys ∧ Q (.ref p) H))
theorem snd_tuple {K : PySem.W.Frag} : SndC K tupleC (rTupleC K) := by
  intro W F R σ H env Q xs vs z S h e p
  match xs, h, e with
  | [.lst ys], h, e =>
    cases e
    obtain ⟨v, rfl, a, us, rfl, s, r⟩ := vw1 h
    exact ⟨a, us, rfl, .inl ⟨s, fun q hq => post_tup S p hq r⟩⟩
  | [.tup ys], h, e =>
    cases e
    obtain ⟨v, rfl, hv⟩ := vw1 h
    cases hv with
    | tup s r => exact ⟨_, _, rfl, .inr ⟨ex_t S.sub s, post_d S p (.tup s r)⟩⟩
def ordC : List D → Option RV
  | [.str [c]] => some (.d (.int c))
  | _ => none
end
end Dw
namespace Dw
noncomputable section
open PySem PySem.Spec PyProof.Rows L2
variable [Glo] [Tabs]
theorem _root_.L2.PS.wk {X : Cx} {e : Stmt} {t u : TS} (h : PS X e t) (w : ∀ En σ H, u En σ H → t En σ H) : PS X e u := ⟨fun pins s σ H En I q => h.run pins s σ H En I (w En σ H q)⟩
theorem _root_.L2.PSs.wk {X : Cx} {e : List Stmt} {t u : TS} (h : PSs X e t) (w : ∀ En σ H, u En σ H → t En σ H) : PSs X e u := ⟨fun pins s σ H En I q => h.run pins s σ H En I (w En σ H q)⟩
inductive Out where
  | nx (env : Sl) | rt (a : RV) (env : Sl) | bk (env : Sl) | ct (env : Sl) | ex (e : Xn) (env : Sl)
abbrev SS := Sl → Option Out
section
variable (K : PySem.W.Frag) (W : WX)
def PostS (En : Ends) (F : Hp) (R : Fm) (r : Out) : Prop :=
  match r with
  | .nx env' => ∀ σ' F' H', Ex F F' → Sta K F' R σ' H' env' → En.nx σ' H'
  | .rt a env' => ∀ v σ' F' H', Ex F F' → Sta K F' R σ' H' env' → RvOk K F' R σ' H' env' v a → En.rt v H'
  | .bk env' => ∀ σ' F' H', Ex F F' → Sta K F' R σ' H' env' → En.bk σ' H'
  | .ct env' => ∀ σ' F' H', Ex F F' → Sta K F' R σ' H' env' → En.ct σ' H'
  | .ex e env' => ∀ cls d σ' F' H', Ex F F' → Sta K F' R σ' H' env' → XnAt K F' e cls d → W cls d σ' H'
def dS (f : SS) : TS := fun En σ H => ∃ env F R r, Sta K F R σ H env ∧ f env = some r ∧ PostS K W En F R r
end
def bindS (x : Option Re) (k : RV → SS) : Option Out :=
  match x with
  | some (.ok a env) => k a env
  | some (.ex e env) => some (.ex e env)
  | none => none
@[simp] theorem bindS_ok {a : RV} {env : Sl} {k : RV → SS} : bindS (some (.ok a env)) k = k a env := rfl
@[simp] theorem bindS_ex {e : Xn} {env : Sl} {k : RV → SS} : bindS (some (.ex e env)) k = some (.ex e env) := rfl
@[simp] theorem bindS_none {k : RV → SS} : bindS none k = none := rfl
theorem bindS_inv {x : Option Re} {k : RV → SS} {r : Out} (h : bindS x k = some r) : (∃ a env1, x = some (.ok a env1) ∧ k a env1 = some r) ∨ ∃ e env1, x = some (.ex e env1) ∧ r = .ex e env1 := by
  cases x with
  | none => cases h
  | some q =>
    cases q with
    | ok a env1 => exact .inl ⟨a, env1, rfl, h⟩
    | ex e env1 => exact .inr ⟨e, env1, rfl, (Option.some.inj h).symm⟩
def skipS : SS := fun env => some (.nx env)
def seqS (f g : SS) : SS := fun env => match f env with
  | some (.nx env1) => g env1
  | o => o
/-- a free slot: it may be written -/
def freeSlot : Option SV → Bool
  | some (.own true _) => false
  | some _ => true
  | none => false
def setSlot (i : Nat) (s : SV) (env : Sl) : Option Sl := if freeSlot env[i]? then some (env.set i s) else none
/-- what a name holds behind a store -/
def storeR (i : Nat) (a : RV) : Sl → Option Sl := fun env => match a with
  | .d x => setSlot i (.d x) env
  | .own c => setSlot i (.own false c) env
  | .cv j => (frz (.cv j) env).bind fun p => setSlot i (.d p.1) p.2
def asgS (i : Nat) (fe : SE) : SS := fun env => bindS (fe env) fun a env1 => (storeR i a env1).map .nx
def exprS (fe : SE) : SS := fun env => bindS (fe env) fun _ env1 => some (.nx env1)
def retS (fe : SE) : SS := fun env => bindS (fe env) fun a env1 => some (.rt a env1)
def retNS : SS := fun env => some (.rt (.d .non) env)
def iteS (fc : SE) (f g : SS) : SS := fun env => bindS (fc env) fun c env1 => match tru c env1 with
  | some true => f env1
  | some false => g env1
  | none => none
def breakS : SS := fun env => some (.bk env)
def contS : SS := fun env => some (.ct env)
section
variable {K : PySem.W.Frag} {W : WX} {F F' : Hp} {R R' : Fm} {σ : L2.St} {H H' : Hp} {env env' : Sl} {En : Ends}
theorem PostS.up (e : Ex F F') : ∀ {r : Out}, PostS K W En F R r → PostS K W En F' R r
  | .nx _, h => fun σ F2 H2 e2 s => h σ F2 H2 (e.trans e2) s
  | .rt _ _, h => fun v σ F2 H2 e2 s q => h v σ F2 H2 (e.trans e2) s q
  | .bk _, h => fun σ F2 H2 e2 s => h σ F2 H2 (e.trans e2) s
  | .ct _, h => fun σ F2 H2 e2 s => h σ F2 H2 (e.trans e2) s
  | .ex _ _, h => fun c d σ F2 H2 e2 s q => h c d σ F2 H2 (e.trans e2) s q
theorem dS_seq {f g : SS} (h : dS K W (seqS f g) En σ H) : tSeq (dS K W f) (dS K W g) En σ H := by
  obtain ⟨env, F, R, r, S, e, p⟩ := h
  have e : (match f env with | some (.nx env1) => g env1 | o => o) = some r := e
  cases h1 : f env with
  | none => rw [h1] at e; cases e
  | some o =>
    rw [h1] at e
    cases o with
    | nx env1 => exact ⟨env, F, R, _, S, h1, fun σ1 F1 H1 e1 S1 => ⟨env1, F1, R, r, S1, e, p.up e1⟩⟩
    | _ => cases e; exact ⟨env, F, R, _, S, h1, p⟩
/-- a slot is written with data -/
theorem Sta.setD {i : Nat} {x : D} {v : V} (S : Sta K F R σ H env) (hf : freeSlot env[i]? = true) (r : Rel K F v x) : Sta K F R (σ.set i (some v)) H (env.set i (.d x)) := by
  have hl : i < env.length := by
    cases h : env[i]? with
    | none => rw [h] at hf; cases hf
    | some s => exact (List.getElem?_eq_some_iff.mp h).1
  have hl' : i < σ.length := by rw [S.len]; exact hl
  have other : ∀ {j : Nat} {b : Bool} {c : C}, (env.set i (.d x))[j]? = some (SV.own b c) → j ≠ i ∧ env[j]? = some (SV.own b c) := fun {j b c} h => by
    by_cases hj : j = i
    · subst hj; rw [List.getElem?_set_self hl] at h; cases h
    · rw [List.getElem?_set_ne (Ne.symm hj)] at h; exact ⟨hj, h⟩
  refine ⟨S.sub, S.fr, S.dis, by rw [List.length_set, List.length_set]; exact S.len, fun j y e => ?_, fun j b c e => ?_, fun j c e => ?_, fun j k bj cj bk ck q h1 h2 h3 h4 => ?_, S.xnSet (Ex.refl F) _ (fun y z => by cases z), S.tab⟩
  · by_cases hj : j = i
    · subst hj
      rw [List.getElem?_set_self hl] at e
      cases e
      exact ⟨v, by rw [List.getElem?_set_self hl'], r⟩
    · rw [List.getElem?_set_ne (Ne.symm hj)] at e ⊢
      exact S.dat j y e
  · obtain ⟨hj, e⟩ := other e
    rw [List.getElem?_set_ne (Ne.symm hj)]
    exact S.own j b c e
  · obtain ⟨hj, e⟩ := other e
    rw [List.getElem?_set_ne (Ne.symm hj)]
    exact S.tag j c e
  · obtain ⟨hj, h1⟩ := other h1
    obtain ⟨hk, h2⟩ := other h2
    rw [List.getElem?_set_ne (Ne.symm hj)] at h3
    rw [List.getElem?_set_ne (Ne.symm hk)] at h4
    exact S.inj j k bj cj bk ck q h1 h2 h3 h4
/-- .. with a thing of one's own -/
theorem Sta.setO {i : Nat} {c : C} {p : Addr} {o : HO} (S : Sta K F R σ H env) (hf : freeSlot env[i]? = true) (hF : F p = none) (hR : R.r p = none) (hp : H p = some o) (hc : CellOk K F p o c) (hs : ∀ (j : Nat) b c', env[j]? = some (SV.own b c') → σ[j]? ≠ some (some (V.ref p))) :
    Sta K F R (σ.set i (some (.ref p))) H (env.set i (.own false c)) := by
  have hl : i < env.length := by
    cases h : env[i]? with
    | none => rw [h] at hf; cases hf
    | some s => exact (List.getElem?_eq_some_iff.mp h).1
  have hl' : i < σ.length := by rw [S.len]; exact hl
  refine ⟨S.sub, S.fr, S.dis, by rw [List.length_set, List.length_set]; exact S.len, fun j y e => ?_, fun j b c' e => ?_, fun j c' e => ?_, fun j k bj cj bk ck q h1 h2 h3 h4 => ?_, S.xnSet (Ex.refl F) _ (fun y z => by cases z), S.tab⟩
  · by_cases hj : j = i
    · subst hj
      rw [List.getElem?_set_self hl] at e
      cases e
    · rw [List.getElem?_set_ne (Ne.symm hj)] at e ⊢
      exact S.dat j y e
  · by_cases hj : j = i
    · subst hj
      rw [List.getElem?_set_self hl] at e
      cases e
      exact ⟨p, o, by rw [List.getElem?_set_self hl'], hF, hR, hp, hc⟩
    · rw [List.getElem?_set_ne (Ne.symm hj)] at e ⊢
      exact S.own j b c' e
  · by_cases hj : j = i
    · subst hj
      rw [List.getElem?_set_self hl] at e
      cases e
    · rw [List.getElem?_set_ne (Ne.symm hj)] at e ⊢
      exact S.tag j c' e
  · by_cases hj : j = i
    · by_cases hk : k = i
      · rw [hj, hk]
      · subst hj
        rw [List.getElem?_set_self hl'] at h3
        cases h3
        rw [List.getElem?_set_ne (Ne.symm hk)] at h2 h4
        exact absurd h4 (hs k bk ck h2)
    · by_cases hk : k = i
      · subst hk
        rw [List.getElem?_set_self hl'] at h4
        cases h4
        rw [List.getElem?_set_ne (Ne.symm hj)] at h1 h3
        exact absurd h3 (hs j bj cj h1)
      · rw [List.getElem?_set_ne (Ne.symm hj)] at h1 h3
        rw [List.getElem?_set_ne (Ne.symm hk)] at h2 h4
        exact S.inj j k bj cj bk ck q h1 h2 h3 h4
theorem setSlot_inv {i : Nat} {s : SV} (h : setSlot i s env = some env') : freeSlot env[i]? = true ∧ env' = env.set i s := by
  obtain ⟨c, e⟩ := some_if h
  exact ⟨c, e.symm⟩
theorem storeR_ok {i : Nat} {a : RV} {v : V} (S : Sta K F R σ H env) (h : RvOk K F R σ H env v a) (e : storeR i a env = some env') : ∃ F', Ex F F' ∧ Sta K F' R (σ.set i (some v)) H env' := by
  cases a with
  | d x =>
    obtain ⟨c, rfl⟩ := setSlot_inv e
    exact ⟨F, Ex.refl F, S.setD c h⟩
  | own c =>
    obtain ⟨cf, rfl⟩ := setSlot_inv e
    obtain ⟨p, o, rfl, hF, hR, hp, hc, hs⟩ := h
    exact ⟨F, Ex.refl F, S.setO cf hF hR hp hc hs⟩
  | cv j =>
    have e : ((frz (.cv j) env).bind fun p => setSlot i (.d p.1) p.2) = some env' := e
    rw [Option.bind_eq_some_iff] at e
    obtain ⟨⟨x, env1⟩, h1, e⟩ := e
    obtain ⟨F', e1, S', r⟩ := frz_ok S h h1
    obtain ⟨c, rfl⟩ := setSlot_inv e
    exact ⟨F', e1, S'.setD c r⟩
theorem dS_bind {f : SE} {k : RV → SS} {Q1 : VK} (h : dS K W (fun env => bindS (f env) k) En σ H)
    (hk : ∀ a env F R v H', Sta K F R σ H' env → RvOk K F R σ H' env v a → (∃ r, k a env = some r ∧ PostS K W En F R r) → Q1 v H') : dE K W f σ H Q1 := by
  obtain ⟨env, F, R, r, S, e, p⟩ := h
  rcases bindS_inv e with ⟨a, env1, h1, h2⟩ | ⟨x, env1, h1, rfl⟩
  · exact ⟨env, F, R, _, S, h1, fun v F1 H1 e1 S1 rv => hk a env1 F1 R v H1 S1 rv ⟨r, h2, p.up e1⟩⟩
  · exact ⟨env, F, R, _, S, h1, fun cls d F' H' e1 S1 hx => p cls d σ F' H' e1 S1 hx⟩
theorem dS_asg {i : Nat} {fe : SE} (h : dS K W (asgS i fe) En σ H) : tAsg (dE K W fe) (gName i) En σ H :=
  dS_bind (k := fun a env1 => (storeR i a env1).map .nx) h fun a env F R v H' S rv q => by
    obtain ⟨r, e, p⟩ := q
    have e : (storeR i a env).map Out.nx = some r := e
    rw [Option.map_eq_some_iff] at e
    obtain ⟨env', h1, rfl⟩ := e
    obtain ⟨F', e1, S'⟩ := storeR_ok S rv h1
    exact p _ F' H' e1 S'
theorem dS_expr {fe : SE} (h : dS K W (exprS fe) En σ H) : tDrop (dE K W fe) En σ H :=
  dS_bind (k := fun _ env1 => some (.nx env1)) h fun a env F R v H' S rv q => by
    obtain ⟨r, e, p⟩ := q
    cases e
    exact p σ F H' (Ex.refl F) S
theorem dS_ret {fe : SE} (h : dS K W (retS fe) En σ H) : tRet (dE K W fe) En σ H :=
  dS_bind (k := fun a env1 => some (.rt a env1)) h fun a env F R v H' S rv q => by
    obtain ⟨r, e, p⟩ := q
    cases e
    exact p v σ F H' (Ex.refl F) S rv
theorem dS_if {fc : SE} {f g : SS} (h : dS K W (iteS fc f g) En σ H) : tIfS (dT K W fc) (dS K W f) (dS K W g) En σ H := by
  obtain ⟨env, F, R, r, S, e, p⟩ := h
  rcases bindS_inv e with ⟨a, env1, h1, h2⟩ | ⟨x, env1, h1, rfl⟩
  · refine ⟨env, F, R, _, S, h1, ?_⟩
    cases ht : tru a env1 with
    | none => rw [ht] at h2; cases h2
    | some b =>
      rw [ht] at h2
      refine ⟨b, ht, fun F1 H1 e1 S1 => ?_⟩
      cases b with
      | true => exact iteT ⟨env1, F1, R, r, S1, h2, p.up e1⟩
      | false => exact iteF ⟨env1, F1, R, r, S1, h2, p.up e1⟩
  · exact ⟨env, F, R, _, S, h1, fun cls d F' H' e1 S1 hx => p cls d σ F' H' e1 S1 hx⟩
end
section
variable {X : Cx} {W : WX} {e : Expr} {st : Stmt} {rest : List Stmt} {fe fc : SE} {f g : SS} {pos : Pos}
theorem pss_dnil : PSs X [] (dS X.K W skipS) := pss_nil.wk fun En σ H q => by
  obtain ⟨env, F, R, r, S, e, p⟩ := q
  cases e
  exact p σ F H (Ex.refl F) S
theorem pss_dcons (h1 : PS X st (dS X.K W f)) (h2 : PSs X rest (dS X.K W g)) : PSs X (st :: rest) (dS X.K W (seqS f g)) := (pss_cons h1 h2).wk fun _ _ _ q => dS_seq q
theorem pss_done (h1 : PS X st (dS X.K W f)) : PSs X [st] (dS X.K W f) := pss_one h1
theorem ps_dset {i : Nat} {x : Str} {pos' : Pos} (hN : X.N.Nodup) (hi : X.N[i]? = some x) (hx : Loc X.env.scope x) (he : PE X e (dE X.K W fe)) (hs : swapsWith e (some (.Name x pos')) pos.line X.env = pure false := by rfl) (hf : X.fn x = true ∨ X.env.scope.names.lookup x = some .local := by first | exact .inl rfl | exact .inr rfl | assumption) :
    PS X (.Assign [.Name x pos'] e pos) (dS X.K W (asgS i fe)) := (ps_set hN hi hx he hs hf).wk fun _ _ _ q => dS_asg q
theorem ps_dexpr (he : PE X e (dE X.K W fe)) (hs : swapsWith e none pos.line X.env = pure false := by rfl) : PS X (.Expr e pos) (dS X.K W (exprS fe)) := (ps_expr he hs).wk fun _ _ _ q => dS_expr q
theorem ps_dret (he : PE X e (dE X.K W fe)) : PS X (.Return (some e) pos) (dS X.K W (retS fe)) := (ps_ret he).wk fun _ _ _ q => dS_ret q
theorem ps_dif {c : Expr} {a b : List Stmt} (hc : PT X c (dT X.K W fc)) (ha : PSs X a (dS X.K W f)) (hb : PSs X b (dS X.K W g)) : PS X (.If c a b pos) (dS X.K W (iteS fc f g)) := (ps_if hc ha hb).wk fun _ _ _ q => dS_if q
end
inductive ReI where
  | ok (xs : List D) (env : Sl) | ex (e : Xn) (env : Sl)
abbrev SI := Sl → Option ReI
/-- it walks xs while the frozen things stand -/
structure Wk (K : PySem.W.Frag) (F : Hp) (J : It) (xs : List D) : Prop where
  goes : ∀ i H, i < xs.length → Ex F H → J.go i H
  stops : ∀ H, Ex F H → J.stop xs.length H
  yields : ∀ {F' : Hp} {R : Fm} {σ : L2.St} {env : Sl} i H v H' x, xs[i]? = some x → Ex F F' → Sta K F' R σ H env → J.yld i H v H' → ∃ F2, Ex F' F2 ∧ Sta K F2 R σ H' env ∧ Rel K F2 v x ∧ Ex H H'
section
variable (K : PySem.W.Frag) (W : WX)
def PostI (F : Hp) (R : Fm) (σ : L2.St) (r : ReI) (Q : It → Hp → Prop) : Prop :=
  match r with
  | .ok xs env' => ∀ J F' H', Ex F F' → Sta K F' R σ H' env' → Wk K F' J xs → Q J H'
  | .ex e env' => ∀ cls d F' H', Ex F F' → Sta K F' R σ H' env' → XnAt K F' e cls d → W cls d σ H'
def dI (f : SI) : TI := fun σ H Q => ∃ env F R r, Sta K F R σ H env ∧ f env = some r ∧ PostI K W F R σ r Q
end
/-- where an item goes: a name, two names, or a tuple of such (nil, cons) -/
inductive Tg where
  | nm (i : Nat) | two (i j : Nat) | nil | cons (g gs : Tg)
def Tg.isT : Tg → Bool
  | .nil => true
  | .cons _ _ => true
  | _ => false
def Tg.ln : Tg → Nat
  | .cons _ gs => gs.ln + 1
  | _ => 0
def putT : Tg → D → Sl → Option Sl
  | .nm i, x, env => setSlot i (.d x) env
  | .two i j, .tup [x, y], env => (setSlot i (.d x) env).bind (setSlot j (.d y))
  | .nil, .tup [], env => some env
  | .cons g gs, .tup (x :: xs), env => if gs.isT = true then (putT g x env).bind (putT gs (.tup xs)) else none
  | _, _, _ => none
def gB (K : PySem.W.Frag) : Tg → TG × TGs
  | .nm i => (gName i, gNil)
  | .two i j => (gTup K 2 (gCons (gName i) (gCons (gName j) gNil)), gNil)
  | .nil => (gTup K 0 gNil, gNil)
  | .cons g gs => (gTup K (gs.ln + 1) (gCons (gB K g).1 (gB K gs).2), gCons (gB K g).1 (gB K gs).2)
def gT (K : PySem.W.Frag) (g : Tg) : TG := (gB K g).1
def loopD (tg : Tg) (body : SS) : List D → SS
  | [], env => some (.nx env)
  | x :: xs, env => (putT tg x env).bind fun env1 => match body env1 with
    | some (.nx e2) => loopD tg body xs e2
    | some (.ct e2) => loopD tg body xs e2
    | some (.bk e2) => some (.nx e2)
    | o => o
def forS (fi : SI) (tg : Tg) (body : SS) : SS := fun env => match fi env with
  | some (.ok xs env1) => loopD tg body xs env1
  | some (.ex e env1) => some (.ex e env1)
  | none => none
section
variable {K : PySem.W.Frag} {W : WX} {F F' : Hp} {R R' : Fm} {σ : L2.St} {H H' : Hp} {env env' : Sl} {En : Ends}
def Tg.subP (p : Nat → Bool) : Tg → Bool
  | .nm i => p i
  | .two i j => p i && p j
  | .nil => true
  | .cons g gs => g.subP p && gs.subP p
theorem Tg.subP_all : ∀ (g : Tg), g.subP (fun _ => true) = true
  | .nm _ => rfl
  | .two _ _ => rfl
  | .nil => rfl
  | .cons g gs => by unfold Tg.subP; rw [Tg.subP_all g, Tg.subP_all gs]; rfl
theorem putT_ln : ∀ {g : Tg} {xs : List D} {env env' : Sl}, g.isT = true → putT g (.tup xs) env = some env' → xs.length = g.ln
  | .nil, [], _, _, _, _ => rfl
  | .nil, _ :: _, _, _, _, e => by simp [putT] at e
  | .cons _ _, [], _, _, _, e => by simp [putT] at e
  | .cons g gs, x :: xs, env, env', _, e => by
    unfold putT at e
    by_cases c : gs.isT = true
    · rw [if_pos c, Option.bind_eq_some_iff] at e
      obtain ⟨env1, _, h2⟩ := e
      rw [List.length_cons, Tg.ln, putT_ln c h2]
    · rw [if_neg c] at e; cases e
theorem putT_inv {p : Nat → Bool} {P : L2.St → Prop} (hp : ∀ i σ w, p i = true → P σ → P (σ.set i w)) : ∀ (tg : Tg),
    (∀ {x : D} {v : V} {Q : L2.St → Hp → Prop} {σ : L2.St} {env env' : Sl}, tg.subP p = true → Sta K F R σ H env → P σ → Rel K F v x → putT tg x env = some env' → (∀ σ', Sta K F R σ' H env' → P σ' → Q σ' H) → (gB K tg).1 v σ H Q)
    ∧ (∀ {xs : List D} {vs : List V} {Q : L2.St → Hp → Prop} {σ : L2.St} {env env' : Sl}, tg.isT = true → tg.subP p = true → Sta K F R σ H env → P σ → RelAll K F vs xs → putT tg (.tup xs) env = some env' → (∀ σ', Sta K F R σ' H env' → P σ' → Q σ' H) → (gB K tg).2 vs σ H Q)
  | .nm i => by
    refine ⟨fun {x v Q σ env env'} hs S hP r e q => ?_, fun h => by cases h⟩
    obtain ⟨c, rfl⟩ := setSlot_inv (show setSlot i (.d x) env = some env' from e)
    exact q _ (S.setD c r) (hp _ _ _ hs hP)
  | .two i j => by
    refine ⟨fun {x v Q σ env env'} hs S hP r e q => ?_, fun h => by cases h⟩
    have hs : (p i && p j) = true := hs
    rw [Bool.and_eq_true] at hs
    match x, e, r with
    | .tup [x, y], e, r =>
      have e : ((setSlot i (.d x) env).bind (setSlot j (.d y))) = some env' := e
      rw [Option.bind_eq_some_iff] at e
      obtain ⟨env1, h1, h2⟩ := e
      obtain ⟨c1, rfl⟩ := setSlot_inv h1
      obtain ⟨c2, rfl⟩ := setSlot_inv h2
      cases r with
      | tup s rr =>
        cases rr with
        | cons r1 rr =>
          cases rr with
          | cons r2 rr =>
            cases rr
            exact ⟨_, _, rfl, ex_t S.sub s, rfl, _, _, rfl, _, _, rfl, rfl, q _ ((S.setD c1 r1).setD c2 r2) (hp _ _ _ hs.2 (hp _ _ _ hs.1 hP))⟩
  | .nil => by
    refine ⟨fun {x v Q σ env env'} hs S hP r e q => ?_, fun {xs vs Q σ env env'} _ hs S hP r e q => ?_⟩
    · match x, e, r with
      | .tup [], e, r =>
        have e : some env = some env' := e
        cases e
        cases r with
        | tup s rr =>
          cases rr
          exact ⟨_, _, rfl, ex_t S.sub s, rfl, rfl, q _ S hP⟩
    · match xs, e, r with
      | [], e, r =>
        have e : some env = some env' := e
        cases e
        cases r
        exact ⟨rfl, q _ S hP⟩
  | .cons g gs => by
    have B : ∀ {xs : List D} {vs : List V} {Q : L2.St → Hp → Prop} {σ : L2.St} {env env' : Sl}, (Tg.cons g gs).subP p = true → Sta K F R σ H env → P σ → RelAll K F vs xs → putT (.cons g gs) (.tup xs) env = some env' → (∀ σ', Sta K F R σ' H env' → P σ' → Q σ' H) → gCons (gB K g).1 (gB K gs).2 vs σ H Q := by
      intro xs vs Q σ env env' hs S hP r e q
      have hs : (g.subP p && gs.subP p) = true := hs
      rw [Bool.and_eq_true] at hs
      match xs, e, r with
      | x :: xs, e, r =>
        have e : (if gs.isT = true then (putT g x env).bind (putT gs (.tup xs)) else none) = some env' := e
        by_cases c : gs.isT = true
        · rw [if_pos c, Option.bind_eq_some_iff] at e
          obtain ⟨env1, h1, h2⟩ := e
          cases r with
          | cons r1 rr => exact ⟨_, _, rfl, (putT_inv hp g).1 hs.1 S hP r1 h1 fun σ1 S1 P1 => (putT_inv hp gs).2 c hs.2 S1 P1 rr h2 q⟩
        · rw [if_neg c] at e; cases e
    refine ⟨fun {x v Q σ env env'} hs S hP r e q => ?_, fun {xs vs Q σ env env'} _ hs S hP r e q => B hs S hP r e q⟩
    match x, e, r with
    | .tup xs, e, r =>
      cases r with
      | tup s rr =>
        exact ⟨_, _, rfl, ex_t S.sub s, by rw [rr.len, putT_ln rfl e]; rfl, B hs S hP rr e q⟩
    | .non, e, _ => cases e
    | .bl _, e, _ => cases e
    | .int _, e, _ => cases e
    | .str _, e, _ => cases e
    | .lst _, e, _ => cases e
    | .dct _ _, e, _ => cases e
    | .dcu _ _, e, _ => cases e
    | .ins _ _ _, e, _ => cases e
theorem putT_ok {tg : Tg} {x : D} {v : V} {Q : L2.St → Hp → Prop} (S : Sta K F R σ H env) (r : Rel K F v x) (e : putT tg x env = some env') (q : ∀ σ', Sta K F R σ' H env' → Q σ' H) : gT K tg v σ H Q :=
  (putT_inv (p := fun _ => true) (P := fun _ => True) (fun _ _ _ _ _ => trivial) tg).1 tg.subP_all S trivial r e fun σ' S' _ => q σ' S'
theorem dS_for {fi : SI} {tg : Tg} {body : SS} (h : dS K W (forS fi tg body) En σ H) : tFor (dI K W fi) (gT K tg) (dS K W body) En σ H := by
  obtain ⟨env, F, R, r, S, e, p⟩ := h
  have e : (match fi env with | some (.ok xs env1) => loopD tg body xs env1 | some (.ex e env1) => some (.ex e env1) | none => none) = some r := e
  cases h1 : fi env with
  | none => rw [h1] at e; cases e
  | some q =>
    rw [h1] at e
    cases q with
    | ex x env1 =>
      cases e
      exact ⟨env, F, R, _, S, h1, fun cls d F' H' e1 S1 hx => p cls d σ F' H' e1 S1 hx⟩
    | ok xs env1 =>
      refine ⟨env, F, R, _, S, h1, fun J F1 H1 e1 S1 wk => ?_⟩
      refine ⟨fun i m σ' H' => m = xs.length - i ∧ i ≤ xs.length ∧ ∃ env' F', Ex F1 F' ∧ Sta K F' R σ' H' env' ∧ loopD tg body (xs.drop i) env' = some r, ⟨xs.length, by simp, Nat.zero_le _, env1, F1, Ex.refl _, S1, e⟩, ?_⟩
      rintro i m σ' H' ⟨rfl, hi, env', F', e2, S2, e3⟩
      by_cases hlt : i < xs.length
      · have hx : xs[i]? = some xs[i] := List.getElem?_eq_getElem hlt
        rw [List.drop_eq_getElem_cons hlt] at e3
        have e3 : ((putT tg xs[i] env').bind fun env1 => match body env1 with
          | some (.nx e2) => loopD tg body (xs.drop (i + 1)) e2
          | some (.ct e2) => loopD tg body (xs.drop (i + 1)) e2
          | some (.bk e2) => some (.nx e2)
          | o => o) = some r := e3
        rw [Option.bind_eq_some_iff] at e3
        obtain ⟨env2, h2, e3⟩ := e3
        refine .inr ⟨wk.goes i H' hlt (e2.trans S2.sub), fun σ2 H2 => ∃ env2 F2, Ex F1 F2 ∧ Sta K F2 R σ2 H2 env2 ∧ loopD tg body (xs.drop (i + 1)) env2 = some r, fun σ2 H2 ⟨env2, F2, e4, S4, e5⟩ => ⟨xs.length - (i + 1), by omega, rfl, hlt, env2, F2, e4, S4, e5⟩, fun v H3 hy => ?_⟩
        obtain ⟨F3, e4, S3, rv, _⟩ := wk.yields i H' v H3 xs[i] hx e2 S2 hy
        refine putT_ok S3 rv h2 fun σ3 S4 => ?_
        cases hb : body env2 with
        | none => rw [hb] at e3; cases e3
        | some o =>
          rw [hb] at e3
          have e5 : Ex F1 F3 := e2.trans e4
          refine ⟨env2, F3, R, o, S4, hb, ?_⟩
          cases o with
          | nx env3 => exact fun σ4 F4 H4 e6 S5 => ⟨env3, F4, e5.trans e6, S5, e3⟩
          | ct env3 => exact fun σ4 F4 H4 e6 S5 => ⟨env3, F4, e5.trans e6, S5, e3⟩
          | bk env3 => cases e3; exact fun σ4 F4 H4 e6 S5 => p σ4 F4 H4 ((e1.trans e5).trans e6) S5
          | rt a env3 => cases e3; exact fun v σ4 F4 H4 e6 S5 rv => p v σ4 F4 H4 ((e1.trans e5).trans e6) S5 rv
          | ex x env3 => cases e3; exact fun cls d σ4 F4 H4 e6 S5 hx => p cls d σ4 F4 H4 ((e1.trans e5).trans e6) S5 hx
      · have hi' : i = xs.length := by omega
        subst hi'
        rw [List.drop_length] at e3
        cases e3
        exact .inl ⟨wk.stops H' (e2.trans S2.sub), p σ' F' H' (e1.trans e2) S2⟩
end
end
end Dw
namespace Dw
noncomputable section
open PySem PySem.Spec PyProof.Rows L2
variable [Glo] [Tabs]
theorem _root_.L2.PI.wk {X : Cx} {tg e : Expr} {t u : TI} (h : PI X tg e t) (w : ∀ σ H Q, u σ H Q → t σ H Q) : PI X tg e u := ⟨fun pins s σ H Q I q => h.run pins s σ H Q I (w σ H Q q)⟩
theorem _root_.L2.PI.or {X : Cx} {tg e : Expr} {t u : TI} (h : PI X tg e t) (h' : PI X tg e u) : PI X tg e (fun σ H R => t σ H R ∨ u σ H R) := ⟨fun pins s σ H Q I q => by
  rcases q with q | q
  · exact h.run pins s σ H Q I q
  · exact h'.run pins s σ H Q I q⟩
def bindI (x : Option Re) (k : RV → SI) : Option ReI :=
  match x with
  | some (.ok a env) => k a env
  | some (.ex e env) => some (.ex e env)
  | none => none
@[simp] theorem bindI_ok {a : RV} {env : Sl} {k : RV → SI} : bindI (some (.ok a env)) k = k a env := rfl
@[simp] theorem bindI_ex {e : Xn} {env : Sl} {k : RV → SI} : bindI (some (.ex e env)) k = some (.ex e env) := rfl
@[simp] theorem bindI_none {k : RV → SI} : bindI none k = none := rfl
theorem bindI_inv {x : Option Re} {k : RV → SI} {r : ReI} (h : bindI x k = some r) : (∃ a env1, x = some (.ok a env1) ∧ k a env1 = some r) ∨ ∃ e env1, x = some (.ex e env1) ∧ r = .ex e env1 := by
  cases x with
  | none => cases h
  | some q =>
    cases q with
    | ok a env1 => exact .inl ⟨a, env1, rfl, h⟩
    | ex e env1 => exact .inr ⟨e, env1, rfl, (Option.some.inj h).symm⟩
def itemsD : D → Option (List D)
  | .lst xs => some xs
  | .tup xs => some xs
  | .str x => some (x.map fun c => .str [c])
  | _ => none
def srcE (fe : SE) : SI := fun env => bindI (fe env) fun a env1 => (frz a env1).bind fun p => (itemsD p.1).map fun xs => .ok xs p.2
section
variable {K : PySem.W.Frag} {W : WX} {F F' : Hp} {R R' : Fm} {σ : L2.St} {H H' : Hp} {env env' : Sl}
theorem wk_list {a : Addr} {vs : List V} {xs : List D} (s : SqL K F a vs) (r : RelAll K F vs xs) : Wk K F (Itl K a) xs := by
  have w : Walk (Itl K a) vs.length (fun H => SqL K H a vs) (YAt vs) := walk_list
  refine ⟨fun i H hi e => w.goes i H (by rw [r.len]; exact hi) (ex_l e s), fun H e => by rw [← r.len]; exact w.stops H (ex_l e s), fun {F' R σ env} i H v H' x hx e S y => ?_⟩
  have hi : i < vs.length := by rw [r.len]; exact (List.getElem?_eq_some_iff.mp hx).1
  obtain ⟨e1, e2⟩ := w.yields i H v H' hi (ex_l (e.trans S.sub) s) y
  subst e1
  obtain ⟨d, e3, rv⟩ := r.get e2
  rw [hx] at e3
  cases e3
  exact ⟨F', Ex.refl F', S, rv.up e, Ex.refl _⟩
theorem wk_tup {a : Addr} {vs : List V} {xs : List D} (s : SqT K F a vs) (r : RelAll K F vs xs) : Wk K F (Itt K a) xs := by
  have w : Walk (Itt K a) vs.length (fun H => SqT K H a vs) (YAt vs) := walk_tup
  refine ⟨fun i H hi e => w.goes i H (by rw [r.len]; exact hi) (ex_t e s), fun H e => by rw [← r.len]; exact w.stops H (ex_t e s), fun {F' R σ env} i H v H' x hx e S y => ?_⟩
  have hi : i < vs.length := by rw [r.len]; exact (List.getElem?_eq_some_iff.mp hx).1
  obtain ⟨e1, e2⟩ := w.yields i H v H' hi (ex_t (e.trans S.sub) s) y
  subst e1
  obtain ⟨d, e3, rv⟩ := r.get e2
  rw [hx] at e3
  cases e3
  exact ⟨F', Ex.refl F', S, rv.up e, Ex.refl _⟩
theorem wk_str {x : List Nat} : Wk K F (Its (mk x)) (x.map fun c => .str [c]) := by
  have w : Walk (Its (mk x)) (mk x).cps.size (fun _ => True) (fun i H v H' => H' = H ∧ ∃ c, (mk x).cps[i]? = some c ∧ v = .str ⟨#[c]⟩) := walk_str
  have hs : (mk x).cps.size = x.length := mk_len x
  refine ⟨fun i H hi e => w.goes i H (by rw [hs]; simpa using hi) trivial, fun H e => by rw [List.length_map, ← hs]; exact w.stops H trivial, fun {F' R σ env} i H v H' y hx e S yl => ?_⟩
  have hi : i < x.length := by simpa using (List.getElem?_eq_some_iff.mp hx).1
  obtain ⟨e1, c, e2, e3⟩ := w.yields i H v H' (by rw [hs]; exact hi) trivial yl
  subst e1
  subst e3
  have e4 : x[i]? = some c := by simpa [mk] using e2
  rw [List.getElem?_map, e4] at hx
  cases hx
  exact ⟨F', Ex.refl F', S, .str [c], Ex.refl _⟩
theorem dI_src {fe : SE} {Q : It → Hp → Prop} (h : dI K W (srcE fe) σ H Q) : iList K (dE K W fe) σ H Q ∨ iTup K (dE K W fe) σ H Q ∨ iStr (dE K W fe) σ H Q := by
  obtain ⟨env, F, R, r, S, e, p⟩ := h
  rcases bindI_inv e with ⟨a, env1, h1, h2⟩ | ⟨x, env1, h1, rfl⟩
  · rw [Option.bind_eq_some_iff] at h2
    obtain ⟨⟨x, env2⟩, h3, h4⟩ := h2
    rw [Option.map_eq_some_iff] at h4
    obtain ⟨xs, h5, rfl⟩ := h4
    have key : ∀ {Q1 : VK}, (∀ v F2 H1, Ex F F2 → Sta K F2 R σ H1 env2 → Rel K F2 v x → Q1 v H1) → dE K W fe σ H Q1 := fun {Q1} k =>
      ⟨env, F, R, _, S, h1, fun v F1 H1 e1 S1 rv => by
        obtain ⟨F2, e2, S2, r2⟩ := frz_ok S1 rv h3
        exact k v F2 H1 (e1.trans e2) S2 r2⟩
    cases x with
    | lst ys =>
      cases h5
      exact .inl (key fun v F2 H1 e2 S2 r2 => by
        cases r2 with
        | lst s rr => exact ⟨_, rfl, ⟨_, ex_l S2.sub s⟩, p _ F2 H1 e2 S2 (wk_list s rr)⟩)
    | tup ys =>
      cases h5
      exact .inr (.inl (key fun v F2 H1 e2 S2 r2 => by
        cases r2 with
        | tup s rr => exact ⟨_, rfl, ⟨_, ex_t S2.sub s⟩, p _ F2 H1 e2 S2 (wk_tup s rr)⟩))
    | str y =>
      cases h5
      exact .inr (.inr (key fun v F2 H1 e2 S2 r2 => by
        cases r2
        exact ⟨mk y, rfl, p _ F2 H1 e2 S2 wk_str⟩))
    | _ => cases h5
  · exact .inl ⟨env, F, R, _, S, h1, p⟩
def bindAI (x : Option ReA) (k : List RV → SI) : Option ReI :=
  match x with
  | some (.ok as env) => k as env
  | some (.ex e env) => some (.ex e env)
  | none => none
@[simp] theorem bindAI_ok {a : List RV} {env : Sl} {k : List RV → SI} : bindAI (some (.ok a env)) k = k a env := rfl
@[simp] theorem bindAI_ex {e : Xn} {env : Sl} {k : List RV → SI} : bindAI (some (.ex e env)) k = some (.ex e env) := rfl
@[simp] theorem bindAI_none {k : List RV → SI} : bindAI none k = none := rfl
theorem bindAI_inv {x : Option ReA} {k : List RV → SI} {r : ReI} (h : bindAI x k = some r) : (∃ a env1, x = some (.ok a env1) ∧ k a env1 = some r) ∨ ∃ e env1, x = some (.ex e env1) ∧ r = .ex e env1 := by
  cases x with
  | none => cases h
  | some q =>
    cases q with
    | ok a env1 => exact .inl ⟨a, env1, rfl, h⟩
    | ex e env1 => exact .inr ⟨e, env1, rfl, (Option.some.inj h).symm⟩
def rng1 : List D → Option (List D)
  | [.int n] => if okP (-(2 ^ 62) ≤ n ∧ n < 2 ^ 62) then some ((List.range n.toNat).map fun i => .int (i : Nat)) else none
  | _ => none
def rng2 : List D → Option (List D)
  | [.int m, .int n] => if okP (((-(2 ^ 62) ≤ m ∧ m < 2 ^ 62) ∧ -(2 ^ 62) ≤ n) ∧ n < 2 ^ 62) then some ((List.range (n - m).toNat).map fun i => .int (m + (i : Nat))) else none
  | _ => none
def argsI (g : List D → Option (List D)) (fa : SA) : SI := fun env => bindAI (fa env) fun as env1 => (pks as env1).bind fun xs => (g xs).map fun ys => .ok ys env1
theorem wk_range {lo : Int} {n : Nat} : Wk K F (Itr lo n) ((List.range n).map fun i => .int (lo + (i : Nat))) := by
  have w : Walk (Itr lo n) n (fun _ => True) (YFn fun i => .int (lo + i)) := walk_range
  refine ⟨fun i H hi e => w.goes i H (by simpa using hi) trivial, fun H e => by simpa using w.stops H trivial, fun {F' R σ env} i H v H' y hx e S yl => ?_⟩
  have hi : i < n := by simpa using (List.getElem?_eq_some_iff.mp hx).1
  obtain ⟨e1, e2⟩ := w.yields i H v H' hi trivial yl
  subst e1
  subst e2
  rw [List.getElem?_map, List.getElem?_range hi] at hx
  cases hx
  exact ⟨F', Ex.refl F', S, .int _, Ex.refl _⟩
theorem dI_range1 {fa : SA} {Q : It → Hp → Prop} (h : dI K W (argsI rng1 fa) σ H Q) : iRng1 (dA K W fa) σ H Q := by
  obtain ⟨env, F, R, r, S, e, p⟩ := h
  rcases bindAI_inv e with ⟨as, env1, h1, h2⟩ | ⟨x, env1, h1, rfl⟩
  · rw [Option.bind_eq_some_iff] at h2
    obtain ⟨xs, h3, h4⟩ := h2
    rw [Option.map_eq_some_iff] at h4
    obtain ⟨ys, h5, rfl⟩ := h4
    match xs, h3, h5 with
    | [.int n], h3, h5 =>
      obtain ⟨c, rfl⟩ := some_if h5
      rw [okP_iff] at c
      refine ⟨env, F, R, _, S, h1, fun vs F1 H1 R1 e1 eR S1 hv => ?_⟩
      obtain ⟨v, rfl, hv'⟩ := vw1 (pks_vw eR S1 hv h3)
      cases hv'
      refine ⟨n, rfl, c.1, c.2, p _ F1 H1 e1 (S1.unhold eR) ?_⟩
      have := wk_range (K := K) (F := F1) (lo := 0) (n := n.toNat)
      simpa using this
  · exact ⟨env, F, R, _, S, h1, p⟩
theorem dI_range2 {fa : SA} {Q : It → Hp → Prop} (h : dI K W (argsI rng2 fa) σ H Q) : iRng2 (dA K W fa) σ H Q := by
  obtain ⟨env, F, R, r, S, e, p⟩ := h
  rcases bindAI_inv e with ⟨as, env1, h1, h2⟩ | ⟨x, env1, h1, rfl⟩
  · rw [Option.bind_eq_some_iff] at h2
    obtain ⟨xs, h3, h4⟩ := h2
    rw [Option.map_eq_some_iff] at h4
    obtain ⟨ys, h5, rfl⟩ := h4
    match xs, h3, h5 with
    | [.int m, .int n], h3, h5 =>
      obtain ⟨c, rfl⟩ := some_if h5
      rw [okP_iff] at c
      refine ⟨env, F, R, _, S, h1, fun vs F1 H1 R1 e1 eR S1 hv => ?_⟩
      obtain ⟨v, w, rfl, hv', hw'⟩ := vw2 (pks_vw eR S1 hv h3)
      cases hv'
      cases hw'
      exact ⟨m, n, rfl, ⟨c.1.1.1, c.1.1.2, c.1.2, c.2⟩, p _ F1 H1 e1 (S1.unhold eR) wk_range⟩
  · exact ⟨env, F, R, _, S, h1, p⟩
end
section
variable {X : Cx} {W : WX} {tg e : Expr} {fe : SE} {fa : SA} {body : List Stmt} {f : SS} {pos : Pos}
theorem pi_dsrc (h : PE X e (dE X.K W fe)) : PI X tg e (dI X.K W (srcE fe)) := ((pi_list h).or ((pi_tup h).or (pi_str h))).wk fun _ _ _ q => dI_src q
theorem pi_drange1 {a : Expr} {p : Pos} (hm : X.mg "range" = none) (ha : PA X [a] (dA X.K W fa)) (hg : Gl X "range" := by rfl) (hs : starEach [a] X.env = [(false, eval a X.env)] := by rfl) : PI X tg (.Call (.Name "range" p) [a] [] pos) (dI X.K W (argsI rng1 fa)) :=
  (pi_range1 hg hm ha hs).wk fun _ _ _ q => dI_range1 q
theorem pi_drange2 {a b : Expr} {p : Pos} (hm : X.mg "range" = none) (ha : PA X [a, b] (dA X.K W fa)) (hg : Gl X "range" := by rfl) (hs : starEach [a, b] X.env = [(false, eval a X.env), (false, eval b X.env)] := by rfl) (hs2 : starEach [b] X.env = [(false, eval b X.env)] := by rfl) :
    PI X tg (.Call (.Name "range" p) [a, b] [] pos) (dI X.K W (argsI rng2 fa)) := (pi_range2 hg hm ha hs hs2).wk fun _ _ _ q => dI_range2 q
theorem ps_dfor {t : Tg} {iter : Expr} {fi : SI} (hp : PassesOwn (model X.prog X.w) X.A X.env X.xe) (hc : X.calm = true) (hi : PI X tg iter (dI X.K W fi)) (hg : PG X tg (gT X.K t)) (hb : PSs X body (dS X.K W f))
    (hs : ∀ x, foldedSetIterable iter X.env x = pure x := by intro _; rfl) : PS X (.For tg iter body [] pos) (dS X.K W (forS fi t f)) := (ps_for hp hc hi hg hb hs).wk fun _ _ _ q => dS_for q
theorem pg_dnm {i : Nat} {x : Str} {p : Pos} (hN : X.N.Nodup) (hi : X.N[i]? = some x) (hx : Loc X.env.scope x) (hf : X.fn x = true ∨ X.env.scope.names.lookup x = some .local := by first | exact .inl rfl | exact .inr rfl | assumption) : PG X (.Name x p) (gT X.K (.nm i)) := pg_name hN hi hx hf
theorem pg_dtwo {i j : Nat} {x y : Str} {p1 p2 p3 : Pos} {k : Nat} (hN : X.N.Nodup) (hc : X.calm = true) (hi : X.N[i]? = some x) (hx : Loc X.env.scope x) (hj : X.N[j]? = some y) (hy : Loc X.env.scope y)
    (hf : X.fn x = true ∨ X.env.scope.names.lookup x = some .local := by first | exact .inl rfl | exact .inr rfl | assumption) (hf2 : X.fn y = true ∨ X.env.scope.names.lookup y = some .local := by first | exact .inl rfl | exact .inr rfl | assumption)
    (hs1 : (assignEach [.Name x p1, .Name y p2] X.env).map (·.2) = assign (.Name x p1) X.env :: (assignEach [.Name y p2] X.env).map (·.2) := by rfl)
    (hs2 : (assignEach [.Name y p2] X.env).map (·.2) = assign (.Name y p2) X.env :: (assignEach [] X.env).map (·.2) := by rfl)
    (hn : (assignEach [.Name x p1, .Name y p2] X.env).length = 2 := by rfl) (hst : (assignEach [.Name x p1, .Name y p2] X.env).findIdx? (·.1) = none := by rfl) : PG X (.Tuple [.Name x p1, .Name y p2] k p3) (gT X.K (.two i j)) :=
  pg_tup hc (pgs_cons (pg_name hN hi hx hf) (pgs_cons (pg_name hN hj hy hf2) pgs_nil hs2) hs1) hn hst
/-- a tuple of targets -/
structure PGT (X : Cx) (es : List Expr) (g : Tg) : Prop where
  gs : PGs X es (gB X.K g).2
  tu : (gB X.K g).1 = gTup X.K g.ln (gB X.K g).2
theorem pgt_nil : PGT X [] .nil := ⟨pgs_nil, rfl⟩
theorem pgt_cons {e : Expr} {es : List Expr} {g gs : Tg} (h : PG X e (gT X.K g)) (hs : PGT X es gs)
    (hq : (assignEach (e :: es) X.env).map (·.2) = assign e X.env :: (assignEach es X.env).map (·.2) := by rfl) : PGT X (e :: es) (.cons g gs) := ⟨pgs_cons h hs.gs hq, rfl⟩
theorem pg_dtu {es : List Expr} {g : Tg} {k : Nat} {p3 : Pos} (hc : X.calm = true) (h : PGT X es g) (hn : (assignEach es X.env).length = g.ln := by rfl) (hst : (assignEach es X.env).findIdx? (·.1) = none := by rfl) : PG X (.Tuple es k p3) (gT X.K g) := by
  unfold gT
  rw [h.tu]
  exact pg_tup hc h.gs hn hst
end
abbrev W0 : WX := fun _ _ _ _ => False
/-- the block's own names are empty ahead of each turn -/
def clr : List Nat → Sl → Sl
  | [], env => env
  | i :: is, env => (clr is env).set i .un
def keepD : Option SV → SV
  | some (.d x) => .d x
  | _ => .un
/-- .. and behind it what stood there before -/
def rst : List Nat → Sl → Sl → Sl
  | [], _, env' => env'
  | i :: is, env, env' => (rst is env env').set i (keepD env[i]?)
def bindTD (ft : Option SE) (env : Sl) (k : Bool → Sl → Option (List D × Sl)) : Option (List D × Sl) :=
  match ft with
  | none => k true env
  | some f => match f env with
    | some (.ok a env2) => (tru a env2).bind fun b => k b env2
    | _ => none
def eltD (fe : SE) (env : Sl) : Option (D × Sl) := match fe env with
  | some (.ok a env3) => frz a env3
  | _ => none
def compD (vs : List Nat) (tg : Tg) (ft : Option SE) (fe : SE) : List D → List D → Sl → Option (List D × Sl)
  | [], acc, env => some (acc, env)
  | x :: xs, acc, env => (putT tg x env).bind fun env1 => bindTD ft env1 fun b env2 => match b with
    | true => (eltD fe env2).bind fun p => if acc.length < 100000 then compD vs tg ft fe xs (acc ++ [p.1]) (clr vs p.2) else none
    | false => compD vs tg ft fe xs acc (clr vs env2)
def compE (vs : List Nat) (fi : SI) (tg : Tg) (ft : Option SE) (fe : SE) : SE := fun env => match fi env with
  | some (.ok xs env1) => (compD vs tg ft fe xs [] (clr vs env1)).map fun p => .ok (.own (.lst p.1)) (rst vs env1 p.2)
  | some (.ex e env1) => some (.ex e env1)
  | none => none
def Tg.sub (vs : List Nat) (g : Tg) : Bool := g.subP fun i => vs.contains i
section
theorem clr_get : ∀ (vs : List Nat) (env : Sl) (k : Nat), k ∉ vs → (clr vs env)[k]? = env[k]?
  | [], _, _, _ => rfl
  | i :: is, env, k, h => by
    rw [List.mem_cons, not_or] at h
    unfold clr
    rw [List.getElem?_set_ne (Ne.symm h.1)]
    exact clr_get is env k h.2
theorem clr_len : ∀ (vs : List Nat) (env : Sl), (clr vs env).length = env.length
  | [], _ => rfl
  | i :: is, env => by unfold clr; rw [List.length_set, clr_len is env]
theorem clr_in : ∀ (vs : List Nat) (env : Sl) (k : Nat) (s : SV), k ∈ vs → (clr vs env)[k]? = some s → s = .un
  | i :: is, env, k, s, h, e => by
    unfold clr at e
    by_cases hk : k = i
    · subst hk
      by_cases hl : k < (clr is env).length
      · rw [List.getElem?_set_self hl] at e
        cases e
        rfl
      · rw [List.getElem?_eq_none (by rw [List.length_set]; omega)] at e
        cases e
    · rw [List.getElem?_set_ne (Ne.symm hk)] at e
      rcases List.mem_cons.mp h with h | h
      · exact absurd h hk
      · exact clr_in is env k s h e
theorem rst_get : ∀ (vs : List Nat) (env env' : Sl) (k : Nat), k ∉ vs → (rst vs env env')[k]? = env'[k]?
  | [], _, _, _, _ => rfl
  | i :: is, env, env', k, h => by
    rw [List.mem_cons, not_or] at h
    unfold rst
    rw [List.getElem?_set_ne (Ne.symm h.1)]
    exact rst_get is env env' k h.2
theorem rst_len : ∀ (vs : List Nat) (env env' : Sl), (rst vs env env').length = env'.length
  | [], _, _ => rfl
  | i :: is, env, env' => by unfold rst; rw [List.length_set, rst_len is env env']
theorem rst_in : ∀ (vs : List Nat) (env env' : Sl) (k : Nat) (s : SV), k ∈ vs → (rst vs env env')[k]? = some s → s = keepD env[k]?
  | i :: is, env, env', k, s, h, e => by
    unfold rst at e
    by_cases hk : k = i
    · subst hk
      by_cases hl : k < (rst is env env').length
      · rw [List.getElem?_set_self hl] at e
        cases e
        rfl
      · rw [List.getElem?_eq_none (by rw [List.length_set]; omega)] at e
        cases e
    · rw [List.getElem?_set_ne (Ne.symm hk)] at e
      rcases List.mem_cons.mp h with h | h
      · exact absurd h hk
      · exact rst_in is env env' k s h e
theorem wipe_get : ∀ (vs : List Nat) (σ : L2.St) (k : Nat), k ∉ vs → (wipe σ vs)[k]? = σ[k]?
  | [], _, _, _ => rfl
  | i :: is, σ, k, h => by
    rw [List.mem_cons, not_or] at h
    unfold wipe
    rw [List.getElem?_set_ne (Ne.symm h.1)]
    exact wipe_get is σ k h.2
theorem wipe_in : ∀ (vs : List Nat) (σ : L2.St) (k : Nat), k ∈ vs → k < σ.length → (wipe σ vs)[k]? = some none
  | i :: is, σ, k, h, hl => by
    unfold wipe
    by_cases hk : k = i
    · subst hk
      rw [List.getElem?_set_self (by rw [wipe_length]; exact hl)]
    · rw [List.getElem?_set_ne (Ne.symm hk)]
      rcases List.mem_cons.mp h with h | h
      · exact absurd h hk
      · exact wipe_in is σ k h hl
theorem wipe_eq {vs : List Nat} {σ σ' : L2.St} (hl : σ'.length = σ.length) (h : ∀ k, k ∉ vs → σ'[k]? = σ[k]?) : wipe σ' vs = wipe σ vs := by
  apply List.ext_getElem?
  intro k
  by_cases hk : k ∈ vs
  · by_cases hk2 : k < σ.length
    · rw [wipe_in vs σ k hk hk2, wipe_in vs σ' k hk (by omega)]
    · rw [List.getElem?_eq_none (by rw [wipe_length]; omega), List.getElem?_eq_none (by rw [wipe_length]; omega)]
  · rw [wipe_get vs σ' k hk, wipe_get vs σ k hk, h k hk]
variable {K : PySem.W.Frag} {W : WX} {F F' : Hp} {R R' : Fm} {σ : L2.St} {H H' : Hp} {env env' : Sl}
theorem Sta.wipe (vs : List Nat) (S : Sta K F R σ H env) : Sta K F R (L2.wipe σ vs) H (clr vs env) := by
  have un : ∀ {i : Nat} {s : SV}, (clr vs env)[i]? = some s → s ≠ .un → i ∉ vs ∧ env[i]? = some s := fun {i s} h hs => by
    by_cases hi : i ∈ vs
    · exact absurd (clr_in vs env i s hi h) hs
    · rw [clr_get vs env i hi] at h
      exact ⟨hi, h⟩
  refine ⟨S.sub, S.fr, S.dis, by rw [wipe_length, clr_len]; exact S.len, fun i x e => ?_, fun i b c e => ?_, fun i c e => ?_, fun i j bi ci bj cj p h1 h2 h3 h4 => ?_, fun i x q => (by
    obtain ⟨hi, q⟩ := un q (by simp)
    rw [wipe_get vs σ i hi]
    exact S.xn i x q), S.tab⟩
  · obtain ⟨hi, e⟩ := un e (by simp)
    rw [wipe_get vs σ i hi]
    exact S.dat i x e
  · obtain ⟨hi, e⟩ := un e (by simp)
    rw [wipe_get vs σ i hi]
    exact S.own i b c e
  · obtain ⟨hi, e⟩ := un e (by simp)
    rw [wipe_get vs σ i hi]
    exact S.tag i c e
  · obtain ⟨hi, h1⟩ := un h1 (by simp)
    obtain ⟨hj, h2⟩ := un h2 (by simp)
    rw [wipe_get vs σ i hi] at h3
    rw [wipe_get vs σ j hj] at h4
    exact S.inj i j bi ci bj cj p h1 h2 h3 h4
/-- the block's names cleared once more: any slots that agree outside them -/
theorem Sta.rewipe {σ2 : L2.St} (vs : List Nat) (S : Sta K F R σ2 H env) (h : L2.wipe σ2 vs = L2.wipe σ vs) : Sta K F R (L2.wipe σ vs) H (clr vs env) := by
  rw [← h]
  exact S.wipe vs
theorem Sta.unwipe {vs : List Nat} {F0 : Hp} {R0 : Fm} {H0 : Hp} (S0 : Sta K F0 R0 σ H0 env) (e : Ex F0 F) (S : Sta K F R (L2.wipe σ vs) H env') : Sta K F R σ H (rst vs env env') := by
  have un : ∀ {i : Nat} {s : SV}, (rst vs env env')[i]? = some s → (i ∉ vs ∧ env'[i]? = some s) ∨ (i ∈ vs ∧ s = keepD env[i]?) := fun {i s} h => by
    by_cases hi : i ∈ vs
    · exact .inr ⟨hi, rst_in vs env env' i s hi h⟩
    · rw [rst_get vs env env' i hi] at h
      exact .inl ⟨hi, h⟩
  have kd : ∀ {o : Option SV} {x : D}, keepD o = .d x → o = some (.d x) := fun {o x} h => by
    unfold keepD at h
    split at h
    · cases h; rfl
    · cases h
  have ko : ∀ {o : Option SV} {b : Bool} {c : C}, keepD o ≠ .own b c := fun {o b c} h => by
    unfold keepD at h
    split at h <;> cases h
  refine ⟨S.sub, S.fr, S.dis, by rw [rst_len, ← S.len, wipe_length], fun i x q => ?_, fun i b c q => ?_, fun i c q => ?_, fun i j bi ci bj cj p h1 h2 h3 h4 => ?_, fun i x q => (by
    rcases un q with ⟨hi, q⟩ | ⟨hi, q⟩
    · have := S.xn i x q
      rw [wipe_get vs σ i hi] at this
      exact this
    · unfold keepD at q
      split at q <;> cases q), S.tab⟩
  · rcases un q with ⟨hi, q⟩ | ⟨hi, q⟩
    · have := S.dat i x q
      rw [wipe_get vs σ i hi] at this
      exact this
    · obtain ⟨v, e1, r⟩ := S0.dat i x (kd q.symm)
      exact ⟨v, e1, r.up e⟩
  · rcases un q with ⟨hi, q⟩ | ⟨hi, q⟩
    · have := S.own i b c q
      rw [wipe_get vs σ i hi] at this
      exact this
    · exact absurd q.symm ko
  · rcases un q with ⟨hi, q⟩ | ⟨hi, q⟩
    · have := S.tag i c q
      rw [wipe_get vs σ i hi] at this
      exact this
    · exact absurd q.symm ko
  · rcases un h1 with ⟨hi, h1⟩ | ⟨hi, q⟩
    · rcases un h2 with ⟨hj, h2⟩ | ⟨hj, q⟩
      · exact S.inj i j bi ci bj cj p h1 h2 (by rw [wipe_get vs σ i hi]; exact h3) (by rw [wipe_get vs σ j hj]; exact h4)
      · exact absurd q.symm ko
    · exact absurd q.symm ko
/-- the target is stored within the block's own names -/
theorem putT_in {tg : Tg} {vs : List Nat} {x : D} {v : V} {Q : L2.St → Hp → Prop} (hv : tg.sub vs = true) (S : Sta K F R (L2.wipe σ vs) H env) (r : Rel K F v x) (e : putT tg x env = some env') (q : ∀ σ', Sta K F R σ' H env' → L2.wipe σ' vs = L2.wipe σ vs → Q σ' H) : gT K tg v (L2.wipe σ vs) H Q := by
  have ww : ∀ {i : Nat} {w : Option V} {σ2 : L2.St}, i ∈ vs → L2.wipe σ2 vs = L2.wipe σ vs → L2.wipe (σ2.set i w) vs = L2.wipe σ vs := fun {i w σ2} hi h => by
    rw [← h]
    exact wipe_eq (by rw [List.length_set]) fun k hk => by rw [List.getElem?_set_ne (fun z => hk (by subst z; exact hi))]
  have w0 : L2.wipe (L2.wipe σ vs) vs = L2.wipe σ vs := wipe_eq (wipe_length σ vs) fun k hk => wipe_get vs σ k hk
  exact (putT_inv (p := fun i => vs.contains i) (P := fun σ' => L2.wipe σ' vs = L2.wipe σ vs) (fun i σ2 w hi h => ww (by simpa using hi) h) tg).1 hv S w0 r e q
def tTD (K : PySem.W.Frag) : Option SE → TT
  | none => tYes
  | some f => dT K W0 f
theorem dE_comp {vs : List Nat} {fi : SI} {tg : Tg} {ft : Option SE} {fe : SE} {Q : VK} (hv : tg.sub vs = true) (h : dE K W (compE vs fi tg ft fe) σ H Q) : tLc (dI K W fi) (gT K tg) (tTD K ft) (dE K W0 fe) vs σ H Q := by
  obtain ⟨env, F, R, r, S, e, p⟩ := h
  have e : (match fi env with
    | some (.ok xs env1) => (compD vs tg ft fe xs [] (clr vs env1)).map fun p => Re.ok (.own (.lst p.1)) (rst vs env1 p.2)
    | some (.ex e env1) => some (.ex e env1)
    | none => none) = some r := e
  cases h1 : fi env with
  | none => rw [h1] at e; cases e
  | some q =>
    rw [h1] at e
    cases q with
    | ex x env1 => cases e; exact ⟨env, F, R, _, S, h1, p⟩
    | ok xs env1 =>
      dsimp only at e
      rw [Option.map_eq_some_iff] at e
      obtain ⟨⟨ys, env9⟩, h2, rfl⟩ := e
      refine ⟨env, F, R, _, S, h1, fun J F1 H1 e1 S1 wk L hL => ?_⟩
      -- between the turns: the list at L holds acc
      refine ⟨fun i m H' => m = xs.length - i ∧ i ≤ xs.length ∧ ∃ env' F' acc avs, Ex F1 F' ∧ Sta K F' R (L2.wipe σ vs) H' env' ∧ H' L = some (.lst avs) ∧ F' L = none ∧ R.r L = none ∧ (∀ (j : Nat) b c', env'[j]? = some (SV.own b c') → (L2.wipe σ vs)[j]? ≠ some (some (V.ref L))) ∧ RelAll K F' avs acc ∧ compD vs tg ft fe (xs.drop i) acc env' = some (ys, env9),
        ⟨xs.length, by simp, Nat.zero_le _, clr vs env1, F1, [], [], Ex.refl _, (S1.wipe vs).freshH hL, upd_same, S1.freeF hL, S1.freeR hL, fun j b c' q z => ?_, .nil, h2⟩, ?_⟩
      · obtain ⟨p', o, z1, _, _, z4, _⟩ := (S1.wipe vs).own j b c' q
        rw [z] at z1
        cases z1
        rw [hL] at z4
        cases z4
      · rintro i m H' ⟨rfl, hi, env', F', acc, avs, e2, S2, hL2, hF2, hR2, hs2, ra, e3⟩
        by_cases hlt : i < xs.length
        · have hx : xs[i]? = some xs[i] := List.getElem?_eq_getElem hlt
          rw [List.drop_eq_getElem_cons hlt] at e3
          have e3 : ((putT tg xs[i] env').bind fun env1 => bindTD ft env1 fun b env2 => match b with
            | true => (eltD fe env2).bind fun p => if acc.length < 100000 then compD vs tg ft fe (xs.drop (i + 1)) (acc ++ [p.1]) (clr vs p.2) else none
            | false => compD vs tg ft fe (xs.drop (i + 1)) acc (clr vs env2)) = some (ys, env9) := e3
          rw [Option.bind_eq_some_iff] at e3
          obtain ⟨env2, h3, e3⟩ := e3
          have S2' := S2.hold hF2 hL2 (fun _ z => by cases z) hs2
          have eR : FEx R ⟨upd R.r L (.lst avs), R.t, R.T⟩ := ⟨Ex.new hR2, rfl⟩
          refine .inr ⟨wk.goes i H' hlt (e2.trans S2.sub), fun H2 => ∃ env' F' acc avs, Ex F1 F' ∧ Sta K F' R (L2.wipe σ vs) H2 env' ∧ H2 L = some (.lst avs) ∧ F' L = none ∧ R.r L = none ∧ (∀ (j : Nat) b c', env'[j]? = some (SV.own b c') → (L2.wipe σ vs)[j]? ≠ some (some (V.ref L))) ∧ RelAll K F' avs acc ∧ compD vs tg ft fe (xs.drop (i + 1)) acc env' = some (ys, env9),
            fun H2 ⟨env', F', acc, avs, q⟩ => ⟨xs.length - (i + 1), by omega, rfl, hlt, env', F', acc, avs, q⟩, fun v H3 hy => ?_⟩
          obtain ⟨F3, e4, S3, rv, eH⟩ := wk.yields i H' v H3 xs[i] hx e2 S2' hy
          refine putT_in hv S3 rv h3 fun σ3 S4 hw => ⟨hw, ?_⟩
          -- what holds of the list through the turn
          have stay : ∀ {F5 H5 : Hp} {env5 : Sl}, Sta K F5 ⟨upd R.r L (.lst avs), R.t, R.T⟩ σ3 H5 env5 → H5 L = some (.lst avs) ∧ F5 L = none ∧ Sta K F5 ⟨upd R.r L (.lst avs), R.t, R.T⟩ (L2.wipe σ vs) H5 (clr vs env5) := fun {F5 H5 env5} S5 =>
            ⟨S5.fr L _ upd_same, S5.dis L _ upd_same, S5.rewipe vs hw⟩
          have apart : ∀ {F5 H5 : Hp} {env5 : Sl}, Sta K F5 ⟨upd R.r L (.lst avs), R.t, R.T⟩ (L2.wipe σ vs) H5 env5 → ∀ (j : Nat) b c', env5[j]? = some (SV.own b c') → (L2.wipe σ vs)[j]? ≠ some (some (V.ref L)) := fun {F5 H5 env5} S5 j b c' q z => by
            obtain ⟨p', o, z1, _, z3, _⟩ := S5.own j b c' q
            rw [z] at z1
            cases z1
            have z3 : upd R.r L (.lst avs) L = none := z3
            rw [upd_same] at z3
            cases z3
          have elt : ∀ (env3 : Sl) (F5 H5 : Hp), Ex F3 F5 → Sta K F5 ⟨upd R.r L (.lst avs), R.t, R.T⟩ σ3 H5 env3 → ((eltD fe env3).bind fun p => if acc.length < 100000 then compD vs tg ft fe (xs.drop (i + 1)) (acc ++ [p.1]) (clr vs p.2) else none) = some (ys, env9) →
              dE K W0 fe σ3 H5 fun y H4 => ∃ acc, H4 L = some (.lst acc) ∧ acc.length < sizeLine ∧ ∃ env' F' acc' avs, Ex F1 F' ∧ Sta K F' R (L2.wipe σ vs) (upd H4 L (.lst (acc ++ [y]))) env' ∧ (upd H4 L (.lst (acc ++ [y]))) L = some (.lst avs) ∧ F' L = none ∧ R.r L = none ∧ (∀ (j : Nat) b c', env'[j]? = some (SV.own b c') → (L2.wipe σ vs)[j]? ≠ some (some (V.ref L))) ∧ RelAll K F' avs acc' ∧ compD vs tg ft fe (xs.drop (i + 1)) acc' env' = some (ys, env9) := fun env3 F5 H5 e5 S5 e6 => by
            rw [Option.bind_eq_some_iff] at e6
            obtain ⟨⟨y, env4⟩, h4, e6⟩ := e6
            have hle : acc.length < 100000 := by
              by_cases c : acc.length < 100000
              · exact c
              · rw [if_neg c] at e6; cases e6
            rw [if_pos hle] at e6
            unfold eltD at h4
            cases h5 : fe env3 with
            | none => rw [h5] at h4; cases h4
            | some r5 =>
              rw [h5] at h4
              cases r5 with
              | ex _ _ => cases h4
              | ok a env5 =>
                refine ⟨env3, F5, ⟨upd R.r L (.lst avs), R.t, R.T⟩, _, S5, h5, fun w F6 H6 e7 S6 rw' => ?_⟩
                obtain ⟨F7, e8, S7, r7⟩ := frz_ok S6 rw' h4
                obtain ⟨k1, k2, k3⟩ := stay S7
                have eF : Ex F' F7 := ((e4.trans e5).trans e7).trans e8
                refine ⟨avs, k1, Nat.lt_of_lt_of_le (by rw [ra.len]; exact hle) (by decide : 100000 ≤ sizeLine), clr vs env4, F7, acc ++ [y], avs ++ [w], e2.trans eF, ?_, upd_same, k2, hR2, fun j b c' q => apart k3 j b c' q, (ra.up eF).app (.cons r7 .nil), e6⟩
                have S8 := k3.unhold eR
                have ap := apart k3
                refine ⟨fun b u q => ?_, fun b u q => ?_, S8.dis, S8.len, S8.dat, fun j b c q => ?_, S8.tag, S8.inj, S8.xn, fun P h => ?_⟩
                rotate_right
                · obtain ⟨⟨ps, h1, h2⟩, h3⟩ := S8.tab P h
                  have hb : P ≠ L := fun z => by rw [z, k1] at h1; cases h1
                  exact ⟨⟨ps, by rw [upd_ne hb]; exact h1, h2⟩, h3⟩
                · have hb : b ≠ L := fun z => by rw [z, k2] at q; cases q
                  rw [upd_ne hb]; exact S8.sub b u q
                · have hb : b ≠ L := fun z => by rw [z, hR2] at q; cases q
                  rw [upd_ne hb]; exact S8.fr b u q
                · obtain ⟨p', o, z1, z2, z3, z4, z5⟩ := S8.own j b c q
                  have hb : p' ≠ L := fun z => ap j b c q (by rw [z1, z])
                  exact ⟨p', o, z1, z2, z3, by rw [upd_ne hb]; exact z4, z5⟩
          cases ft with
          | none =>
            exact elt env2 F3 H3 (Ex.refl _) S4 e3
          | some f =>
            have e3 : (match f env2 with
              | some (.ok a env2) => (tru a env2).bind fun b => match b with
                | true => (eltD fe env2).bind fun p => if acc.length < 100000 then compD vs tg (some f) fe (xs.drop (i + 1)) (acc ++ [p.1]) (clr vs p.2) else none
                | false => compD vs tg (some f) fe (xs.drop (i + 1)) acc (clr vs env2)
              | _ => none) = some (ys, env9) := e3
            cases h6 : f env2 with
            | none => rw [h6] at e3; cases e3
            | some r6 =>
              rw [h6] at e3
              cases r6 with
              | ex _ _ => cases e3
              | ok a env3 =>
                dsimp only at e3
                rw [Option.bind_eq_some_iff] at e3
                obtain ⟨b, h7, e3⟩ := e3
                refine ⟨env2, F3, ⟨upd R.r L (.lst avs), R.t, R.T⟩, _, S4, h6, b, h7, fun F5 H5 e5 S5 => ?_⟩
                cases b with
                | true => exact iteT (elt env3 F5 H5 e5 S5 e3)
                | false =>
                  refine iteF ?_
                  obtain ⟨k1, k2, k3⟩ := stay S5
                  have eF : Ex F' F5 := e4.trans e5
                  exact ⟨clr vs env3, F5, acc, avs, e2.trans eF, k3.unhold eR, k1, k2, hR2, apart k3, ra.up eF, e3⟩
        · have hi' : i = xs.length := by omega
          subst hi'
          rw [List.drop_length] at e3
          cases e3
          refine .inl ⟨wk.stops H' (e2.trans S2.sub), p _ F' H' (e1.trans e2) (Sta.unwipe S1 e2 S2) ⟨L, _, rfl, hF2, hR2, hL2, ⟨avs, rfl, ra⟩, fun j b c' q z => ?_⟩⟩
          by_cases hj : j ∈ vs
          · have := rst_in vs env1 env9 j _ hj q
            unfold keepD at this
            split at this <;> cases this
          · rw [rst_get vs env1 env9 j hj] at q
            exact hs2 j b c' q (by rw [wipe_get vs σ j hj]; exact z)
end
end
end Dw
namespace Dw
noncomputable section
open PySem PySem.Spec PyProof.Rows L2
variable [Glo] [Tabs]
section
variable {X : Cx} {W : WX} {f : SE}
theorem pts_dnil : PTs X [] (tTD X.K none) := pts_nil
theorem pts_done {c : Expr} (h : PT X c (dT X.K W0 f)) : PTs X [c] (tTD X.K (some f)) := pts_one h
theorem pd_comp {elt tg iter : Expr} {ifs : List Expr} {scope : Scope} {own : List (Str × Nat)} {pos : Pos} {fi : SI} {t : Tg} {ft : Option SE} {fe : SE} (hc : X.calm = true) (hN : X.N.Nodup) (ok : BlkOk X.N X.env.scope scope own) (hv : t.sub (own.map (·.2)) = true) (hi : PI X tg iter (dI X.K W fi))
    (hg : ∀ (s : Shared) (H : Hp) (C : Addr) (cl : List (Str × Addr)) (fp : List Addr), PG (X.blk s H scope (compEnvC scope cl C X.env) fp) tg (gT X.K t)) (ht : ∀ (s : Shared) (H : Hp) (C : Addr) (cl : List (Str × Addr)) (fp : List Addr), PTs (X.blk s H scope (compEnvC scope cl C X.env) fp) ifs (tTD X.K ft))
    (he : ∀ (s : Shared) (H : Hp) (C : Addr) (cl : List (Str × Addr)) (fp : List Addr), PE (X.blk s H scope (compEnvC scope cl C X.env) fp) elt (dE X.K W0 fe)) (hs : ∀ x, foldedSetIterable iter X.env x = pure x := by intro _; rfl) :
    PE X (.ListComp elt [⟨tg, iter, ifs, 0⟩] scope pos) (dE X.K W (compE (own.map (·.2)) fi t ft fe)) := (pe_lc hc hN hi ok hg ht he hs).wk fun _ _ _ q => dE_comp hv q
theorem ps_dsetComp {i : Nat} {y : Str} {py : Pos} {elt tg iter : Expr} {ifs : List Expr} {scope : Scope} {own : List (Str × Nat)} {pos spos : Pos} {fi : SI} {t : Tg} {ft : Option SE} {fe : SE} (hc : X.calm = true) (hN : X.N.Nodup) (hy : X.N[i]? = some y) (hyl : X.env.scope.names.lookup y = some .local)
    (hsw : swapsWith (.ListComp elt [⟨tg, iter, ifs, 0⟩] scope pos) (some (.Name y py)) spos.line X.env = pure true) (ok : BlkOk X.N X.env.scope scope own) (hv : t.sub (own.map (·.2)) = true) (hi : PI X tg iter (dI X.K W fi))
    (hg : ∀ (s : Shared) (H : Hp) (C : Addr) (cl : List (Str × Addr)) (fp : List Addr), PG (X.blk s H scope (compEnvC scope cl C X.env) fp) tg (gT X.K t)) (ht : ∀ (s : Shared) (H : Hp) (C : Addr) (cl : List (Str × Addr)) (fp : List Addr), PTs (X.blk s H scope (compEnvC scope cl C X.env) fp) ifs (tTD X.K ft))
    (he : ∀ (s : Shared) (H : Hp) (C : Addr) (cl : List (Str × Addr)) (fp : List Addr), PE (X.blk s H scope (compEnvC scope cl C X.env) fp) elt (dE X.K W0 fe)) (hs : ∀ x, foldedSetIterable iter X.env x = pure x := by intro _; rfl) :
    PS X (.Assign [.Name y py] (.ListComp elt [⟨tg, iter, ifs, 0⟩] scope pos) spos) (dS X.K W (asgS i (compE (own.map (·.2)) fi t ft fe))) := (ps_setLc hc hN hy hyl hsw hi ok hg ht he hs).wk fun _ _ _ q => dE_comp hv (dS_asg q)
end
inductive FR where
  | ok (a : RV) (outs : List SV) | ex (e : Xn) (outs : List SV)
def resS : Option SV → Option RV
  | some (.own false c) => some (.own c)
  | some (.d x) => some (.d x)
  | _ => none
def resV (a : RV) (env : Sl) : Option RV := match a with
  | .d x => some (.d x)
  | .own c => some (.own c)
  | .cv i => resS env[i]?
def backs : List SV → Sl → Option (List SV)
  | [], _ => some []
  | .own true _ :: as, .own true c :: es => (backs as es).map (.own true c :: ·)
  | .d x :: as, _ :: es => (backs as es).map (.d x :: ·)
  | _, _ => none
def runF (n : Nat) (body : SS) (args : List SV) : Option FR := match body (args ++ List.replicate n .un) with
  | some (.rt a env) => (resV a env).bind fun a' => (backs args env).map (FR.ok a')
  | some (.nx env) => (backs args env).map (FR.ok (.d .non))
  | some (.ex e env) => (backs args env).map (FR.ex e)
  | _ => none
section
variable (K : PySem.W.Frag)
def PostF (F : Hp) (R : Fm) (vs : List V) (r : FR) (Q : VK) (E : XK) : Prop :=
  match r with
  | .ok a outs => ∀ v F' H', Ex F F' → Sta K F' R (vs.map some) H' outs → RvOk K F' R (vs.map some) H' outs v a → Q v H'
  | .ex e outs => ∀ cls d F' H', Ex F F' → Sta K F' R (vs.map some) H' outs → XnAt K F' e cls d → E cls d H'
def spD (np : Nat) (m : List SV → Option FR) : Sp := fun vs H Q E => ∃ F R args r, args.length = np ∧ Sta K F R (vs.map some) H args ∧ m args = some r ∧ PostF K F R vs r Q E
end
section
variable {K : PySem.W.Frag} {W : WX} {F F' : Hp} {R R' : Fm} {σ : L2.St} {H H' : Hp} {env env' : Sl} {vs : List V} {args : List SV}
theorem backs_len : ∀ {as : List SV} {es : Sl} {outs : List SV}, backs as es = some outs → outs.length = as.length
  | [], _, _, h => by cases h; rfl
  | .un :: _, _, _, h => by cases h
  | .own false _ :: _, _, _, h => by cases h
  | .own true _ :: as, [], _, h => by cases h
  | .own true _ :: as, e :: es, _, h => by
    cases e with
    | own b c =>
      cases b with
      | false => cases h
      | true =>
        have h : (backs as es).map (SV.own true c :: ·) = some _ := h
        rw [Option.map_eq_some_iff] at h
        obtain ⟨o, h1, rfl⟩ := h
        simp [backs_len h1]
    | _ => cases h
  | .d x :: as, [], _, h => by cases h
  | .d x :: as, e :: es, outs, h => by
    have h : (backs as es).map (SV.d x :: ·) = some outs := by cases e <;> exact h
    rw [Option.map_eq_some_iff] at h
    obtain ⟨o, h1, rfl⟩ := h
    simp [backs_len h1]
theorem backs_at : ∀ {as : List SV} {es : Sl} {outs : List SV} {i : Nat} {s : SV}, backs as es = some outs → outs[i]? = some s → (∃ x, s = .d x ∧ as[i]? = some (.d x)) ∨ ∃ c c', s = .own true c' ∧ as[i]? = some (.own true c) ∧ es[i]? = some (.own true c')
  | [], _, _, _, _, h, e => by cases h; simp at e
  | .un :: _, _, _, _, _, h, _ => by cases h
  | .own false _ :: _, _, _, _, _, h, _ => by cases h
  | .own true _ :: as, [], _, _, _, h, _ => by cases h
  | .own true c0 :: as, e :: es, _, i, s, h, q => by
    cases e with
    | own b c =>
      cases b with
      | false => cases h
      | true =>
        have h : (backs as es).map (SV.own true c :: ·) = some _ := h
        rw [Option.map_eq_some_iff] at h
        obtain ⟨o, h1, rfl⟩ := h
        cases i with
        | zero =>
          simp at q
          subst q
          exact .inr ⟨c0, c, rfl, rfl, rfl⟩
        | succ i => simpa using backs_at (i := i) h1 (by simpa using q)
    | _ => cases h
  | .d x :: as, [], _, _, _, h, _ => by cases h
  | .d x :: as, e :: es, outs, i, s, h, q => by
    have h : (backs as es).map (SV.d x :: ·) = some outs := by cases e <;> exact h
    rw [Option.map_eq_some_iff] at h
    obtain ⟨o, h1, rfl⟩ := h
    cases i with
    | zero =>
      simp at q
      subst q
      exact .inl ⟨x, rfl, rfl⟩
    | succ i => simpa using backs_at (i := i) h1 (by simpa using q)
/-- the def's slots at its entry -/
theorem Sta.start {N : List Str} {n : Nat} (S : Sta K F R (vs.map some) H args) (hN : N.length = vs.length + n) : Sta K F R (L2.start N vs) H (args ++ List.replicate n .un) := by
  have hl : vs.length = args.length := by simpa using S.len
  have hs : L2.start N vs = vs.map some ++ List.replicate n none := by unfold L2.start; rw [hN, Nat.add_sub_cancel_left]
  rw [hs]
  have low : ∀ {i : Nat} {s : SV}, (args ++ List.replicate n SV.un)[i]? = some s → s ≠ .un → i < args.length ∧ args[i]? = some s := fun {i s} h hu => by
    by_cases hi : i < args.length
    · rw [List.getElem?_append_left hi] at h
      exact ⟨hi, h⟩
    · rw [List.getElem?_append_right (by omega), List.getElem?_replicate] at h
      split at h
      · cases h; exact absurd rfl hu
      · cases h
  have lowσ : ∀ {i : Nat}, i < args.length → (vs.map some ++ List.replicate n none)[i]? = (vs.map some)[i]? := fun {i} h => List.getElem?_append_left (by simpa [hl] using h)
  refine ⟨S.sub, S.fr, S.dis, by simp [hl], fun i x e => ?_, fun i b c e => ?_, fun i c e => ?_, fun i j bi ci bj cj p h1 h2 h3 h4 => ?_, fun i x q => (by
    obtain ⟨hi, q⟩ := low q (by simp)
    rw [lowσ hi]
    exact S.xn i x q), S.tab⟩
  · obtain ⟨hi, e⟩ := low e (by simp)
    rw [lowσ hi]
    exact S.dat i x e
  · obtain ⟨hi, e⟩ := low e (by simp)
    rw [lowσ hi]
    exact S.own i b c e
  · obtain ⟨hi, e⟩ := low e (by simp)
    rw [lowσ hi]
    exact S.tag i c e
  · obtain ⟨hi, h1⟩ := low h1 (by simp)
    obtain ⟨hj, h2⟩ := low h2 (by simp)
    rw [lowσ hi] at h3
    rw [lowσ hj] at h4
    exact S.inj i j bi ci bj cj p h1 h2 h3 h4
/-- .. and at its end, as the caller sees them -/
theorem Sta.backs {outs : List SV} (S0 : Sta K F R (vs.map some) H args) (e : Ex F F') (S : Sta K F' R σ H' env) (h : backs args env = some outs) : Sta K F' R (vs.map some) H' outs := by
  have hl := backs_len h
  have tag : ∀ {i : Nat} {c c' : C}, args[i]? = some (.own true c) → env[i]? = some (.own true c') → (vs.map some)[i]? = some (some (V.ref (R.t i))) ∧ σ[i]? = some (some (V.ref (R.t i))) := fun {i c c'} h1 h2 => ⟨S0.tag i c h1, S.tag i c' h2⟩
  refine ⟨S.sub, S.fr, S.dis, by rw [hl]; exact S0.len, fun i x q => ?_, fun i b c q => ?_, fun i c q => ?_, fun i j bi ci bj cj p h1 h2 h3 h4 => ?_, fun i x q => (by
    rcases backs_at h q with ⟨y, q1, _⟩ | ⟨c, c', q1, _⟩ <;> cases q1), S.tab⟩
  · rcases backs_at h q with ⟨y, q1, q2⟩ | ⟨c, c', q1, _⟩
    · cases q1
      obtain ⟨v, e1, r⟩ := S0.dat i x q2
      exact ⟨v, e1, r.up e⟩
    · cases q1
  · rcases backs_at h q with ⟨y, q1, q2⟩ | ⟨c1, c', q1, q2, q3⟩
    · cases q1
    · cases q1
      obtain ⟨t1, t2⟩ := tag q2 q3
      obtain ⟨p, o, z1, z2⟩ := S.own i _ _ q3
      rw [t2] at z1
      cases z1
      exact ⟨_, o, t1, z2⟩
  · rcases backs_at h q with ⟨y, q1, q2⟩ | ⟨c1, c', q1, q2, q3⟩
    · cases q1
    · exact (tag q2 q3).1
  · rcases backs_at h h1 with ⟨y, q1, q2⟩ | ⟨c1, c', q1, q2, q3⟩
    · cases q1
    · rcases backs_at h h2 with ⟨y, r1, r2⟩ | ⟨d1, d', r1, r2, r3⟩
      · cases r1
      · obtain ⟨t1, t2⟩ := tag q2 q3
        obtain ⟨u1, u2⟩ := tag r2 r3
        rw [t1] at h3
        rw [u1] at h4
        exact S.inj i j _ _ _ _ p q3 r3 (by rw [t2]; exact h3) (by rw [u2]; exact h4)
theorem RvOk.backs {outs : List SV} {a a' : RV} {v : V} (S0 : Sta K F R (vs.map some) H args) (S : Sta K F' R σ H' env) (h : Dw.backs args env = some outs) (rv : RvOk K F' R σ H' env v a) (ha : resV a env = some a') : RvOk K F' R (vs.map some) H' outs v a' := by
  have own : ∀ {c : C} {p : Addr} {o : HO}, v = .ref p → F' p = none → R.r p = none → H' p = some o → CellOk K F' p o c → (∀ (i : Nat) c', env[i]? = some (SV.own true c') → σ[i]? ≠ some (some (V.ref p))) → RvOk K F' R (vs.map some) H' outs v (.own c) := fun {c p o} e1 e2 e3 e4 e5 e6 =>
    ⟨p, o, e1, e2, e3, e4, e5, fun i b c' q z => by
      rcases backs_at h q with ⟨y, q1, q2⟩ | ⟨c1, c2, q1, q2, q3⟩
      · cases q1
      · rw [S0.tag i c1 q2] at z
        exact e6 i c2 q3 (by rw [S.tag i c2 q3]; exact z)⟩
  cases a with
  | d x => cases ha; exact rv
  | own c =>
    cases ha
    obtain ⟨p, o, e1, e2, e3, e4, e5, e6⟩ := rv
    exact own e1 e2 e3 e4 e5 fun i c' q => e6 i true c' q
  | cv i =>
    have rv : σ[i]? = some (some v) := rv
    have ha : resS env[i]? = some a' := ha
    cases hi : env[i]? with
    | none => rw [hi] at ha; cases ha
    | some s =>
      rw [hi] at ha
      cases s with
      | un => cases ha
      | xn _ => cases ha
      | d x =>
        cases ha
        obtain ⟨w, e1, r⟩ := S.dat i x hi
        rw [rv] at e1
        cases e1
        exact r
      | own b c =>
        cases b with
        | true => cases ha
        | false =>
          cases ha
          obtain ⟨p, o, e1, e2, e3, e4, e5⟩ := S.own i _ _ hi
          rw [rv] at e1
          cases e1
          refine own rfl e2 e3 e4 e5 fun j c' q z => ?_
          have := S.inj i j _ _ _ _ p hi q rv z
          subst this
          rw [hi] at q
          cases q
end
section
variable {P : Program} {w : World} {K : PySem.W.Frag} {mg : Str → Option Value} {base : Heap}
/-- a def by its body; the body is run with the def's own code -/
theorem fun_okC {x qual : Str} {st : Stmt} {f : Addr} {fd : FuncData} {N ps : List Str} {k : Nat} {sp : Sp} (F : Fun K x qual st f fd) (S : FnScope N ps (defScope st)) (len : ∀ vs H Q E, sp vs H Q E → vs.length = ps.length)
    (hb : ∀ (cdv : Value), fd.code = cdv → ∀ (A : Around) (outer : List Env) (s : Shared) (H : Hp) (vs : List V) (Q : VK) (E : XK), Room k (A.deeper (envOfC qual (defScope st) s.heap.objs.size f cdv)) → sp vs H Q E →
      ∃ t, PSs (cxOf CX0 P w K mg base N qual (defScope st) f cdv A outer s H E).nox (defBody st) t ∧ t { nx := fun _ H' => Q .non H', rt := Q } (start N vs) H) : FnOk P w K mg base CX0 (k + 1) f fd ps sp := by
  obtain ⟨_, _, _, _, _, _, cdv, _, _, rfl, lk, hcd⟩ := F.ex
  exact fn_of lk hcd S len fun A outer s H vs Q E hr hsp => (hb cdv rfl A outer s H vs Q E hr hsp).imp fun t h => ⟨h.1.nox, h.2⟩
/-- a def that raises nothing keeps the promise «it means what its body means» -/
theorem fnd_ok {x qual : Str} {st : Stmt} {f : Addr} {fd : FuncData} {N ps : List Str} {k n : Nat} {body : SS} (F : Fun K x qual st f fd) (S : FnScope N ps (defScope st)) (hn : N.length = ps.length + n)
    (hb : ∀ (cdv : Value), fd.code = cdv → ∀ (A : Around) (outer : List Env) (s : Shared) (H : Hp) (E : XK), Room k (A.deeper (envOfC qual (defScope st) s.heap.objs.size f cdv)) → PSs (cxOf CX0 P w K mg base N qual (defScope st) f cdv A outer s H E).nox (defBody st) (dS K W0 body)) :
    FnOk P w K mg base CX0 (k + 1) f fd ps (spD K ps.length fun args => match runF n body args with | some (.ok a o) => some (.ok a o) | _ => none) := by
  refine fun_okC F S (fun vs H Q E h => ?_) (fun cdv hcd A outer s H vs Q E hr h => ⟨_, hb cdv hcd A outer s H E hr, ?_⟩)
  · obtain ⟨F, R, args, r, h1, h2, _⟩ := h
    have := h2.len
    rw [List.length_map] at this
    omega
  · obtain ⟨F1, R, args, r, h1, S1, e, p⟩ := h
    have hv : vs.length = ps.length := by
      have := S1.len
      rw [List.length_map] at this
      omega
    have S2 := S1.start (N := N) (n := n) (by omega)
    dsimp only at e
    cases hr : runF n body args with
    | none => rw [hr] at e; cases e
    | some q =>
      rw [hr] at e
      cases q with
      | ex _ _ => cases e
      | ok a outs =>
        cases e
        unfold runF at hr
        cases hbd : body (args ++ List.replicate n .un) with
        | none => rw [hbd] at hr; cases hr
        | some o =>
          rw [hbd] at hr
          refine ⟨_, F1, R, o, S2, hbd, ?_⟩
          cases o with
          | rt a0 env =>
            dsimp only at hr
            rw [Option.bind_eq_some_iff] at hr
            obtain ⟨a', h3, hr⟩ := hr
            rw [Option.map_eq_some_iff] at hr
            obtain ⟨o', h4, hr⟩ := hr
            cases hr
            exact fun v σ' F' H' e1 S3 rv => p v F' H' e1 (S1.backs e1 S3 h4) (RvOk.backs S1 S3 h4 rv h3)
          | nx env =>
            dsimp only at hr
            rw [Option.map_eq_some_iff] at hr
            obtain ⟨o', h4, hr⟩ := hr
            cases hr
            exact fun σ' F' H' e1 S3 => p .non F' H' e1 (S1.backs e1 S3 h4) .non
          | bk env => cases hr
          | ct env => cases hr
          | ex x env =>
            dsimp only at hr
            rw [Option.map_eq_some_iff] at hr
            obtain ⟨o', h4, hr⟩ := hr
            cases hr
end
end
end Dw
namespace Dw
noncomputable section
open PySem PySem.Spec PyProof.Rows L2
variable [Glo] [Tabs]
open Classical
noncomputable def calF (R : Fm) (σ : L2.St) (H : Hp) (env : Sl) (i : Nat) (p0 : Addr) : Fm :=
  ⟨fun a => if ∃ j b c, j ≠ i ∧ env[j]? = some (SV.own b c) ∧ σ[j]? = some (some (V.ref a)) then H a else R.r a, fun _ => p0, R.T⟩
section
variable {K : PySem.W.Frag} {W : WX} {F F' : Hp} {R R' : Fm} {σ : L2.St} {H H' : Hp} {env : Sl} {Q : VK} {i : Nat} {p0 : Addr}
theorem calF_own (S : Sta K F R σ H env) {j : Nat} {b : Bool} {c : C} {p : Addr} (hj : j ≠ i) (h : env[j]? = some (.own b c)) (e : σ[j]? = some (some (V.ref p))) : (calF R σ H env i p0).r p = H p := by
  show (if _ then _ else _) = _
  rw [if_pos ⟨j, b, c, hj, h, e⟩]
theorem calF_none (S : Sta K F R σ H env) {p : Addr} (h : (calF R σ H env i p0).r p = none) : R.r p = none ∧ ∀ (j : Nat) (b : Bool) (c : C), j ≠ i → env[j]? = some (SV.own b c) → σ[j]? ≠ some (some (V.ref p)) := by
  have h : (if ∃ j b c, j ≠ i ∧ env[j]? = some (SV.own b c) ∧ σ[j]? = some (some (V.ref p)) then H p else R.r p) = none := h
  by_cases hc : ∃ j b c, j ≠ i ∧ env[j]? = some (SV.own b c) ∧ σ[j]? = some (some (V.ref p))
  · rw [if_pos hc] at h
    exact ⟨S.freeR h, fun j b c hj e1 e2 => by
      obtain ⟨q, o, e3, _, _, e4, _⟩ := S.own j b c e1
      rw [e2] at e3
      cases e3
      rw [h] at e4
      cases e4⟩
  · rw [if_neg hc] at h
    exact ⟨h, fun j b c hj e1 e2 => hc ⟨j, b, c, hj, e1, e2⟩⟩
theorem calF_ex (S : Sta K F R σ H env) : Ex R.r (calF R σ H env i p0).r := fun a u e => by
  show (if ∃ j b c, j ≠ i ∧ env[j]? = some (SV.own b c) ∧ σ[j]? = some (some (V.ref a)) then H a else R.r a) = some u
  split
  · exact S.fr a u e
  · exact e
theorem calF_sub (S : Sta K F R σ H env) : Ex (calF R σ H env i p0).r H := fun a u e => by
  have e : (if ∃ j b c, j ≠ i ∧ env[j]? = some (SV.own b c) ∧ σ[j]? = some (some (V.ref a)) then H a else R.r a) = some u := e
  split at e
  · exact e
  · exact S.fr a u e
theorem calF_dis (S : Sta K F R σ H env) : ∀ b o, (calF R σ H env i p0).r b = some o → F b = none := fun a u e => by
  have e : (if ∃ j b c, j ≠ i ∧ env[j]? = some (SV.own b c) ∧ σ[j]? = some (some (V.ref a)) then H a else R.r a) = some u := e
  split at e
  · next h =>
    obtain ⟨j, b, c, _, h1, h2⟩ := h
    obtain ⟨q, o, e3, e4, _⟩ := S.own j b c h1
    rw [h2] at e3
    cases e3
    exact e4
  · exact S.dis a u e
theorem calF_tab (S : Sta K F R σ H env) : ∀ P, Tabs.T P → (calF R σ H env i p0).r P = none := fun P h => by
  obtain ⟨⟨ps, h1, _⟩, _, h3⟩ := S.tab P h
  show (if _ then _ else _) = none
  rw [if_neg]
  · exact h3
  · intro ⟨j, b, c, _, e1, e2⟩
    obtain ⟨q, o, e3, _, _, e4, e5⟩ := S.own j b c e1
    rw [e2] at e3
    cases e3
    rw [h1] at e4
    exact e5.noT ps (Option.some.inj e4).symm
theorem dGet {xs : List D} {vs : List V} {k : Nat} {s : SV} (r : RelAll K F vs xs) (h : (xs.map SV.d)[k]? = some s) : ∃ x v, s = .d x ∧ (vs.map some)[k]? = some (some v) ∧ Rel K F v x := by
  rw [List.getElem?_map, Option.map_eq_some_iff] at h
  obtain ⟨x, h1, rfl⟩ := h
  obtain ⟨v, h2, rv⟩ := r.getD h1
  exact ⟨x, v, rfl, by rw [List.getElem?_map, h2]; rfl, rv⟩
/-- in: data only -/
theorem Sta.callD (S : Sta K F R σ H env) {xs : List D} {vs : List V} (r : RelAll K F vs xs) : Sta K F (calF R σ H env i p0) (vs.map some) H (xs.map .d) := by
  refine ⟨S.sub, calF_sub S, calF_dis S, by simp [r.len], fun k x e => ?_, fun k b c e => ?_, fun k c e => ?_, fun k l bk ck bl cl p h1 h2 _ _ => ?_, fun k x q => (by
    obtain ⟨y, v, h1, _⟩ := dGet r q
    cases h1), fun P h => let ⟨h1, h2, _⟩ := S.tab P h; ⟨h1, h2, calF_tab S P h⟩⟩
  · obtain ⟨y, v, h1, h2, h3⟩ := dGet r e
    cases h1
    exact ⟨v, h2, h3⟩
  · obtain ⟨y, v, h1, _⟩ := dGet r e
    cases h1
  · obtain ⟨y, v, h1, _⟩ := dGet r e
    cases h1
  · obtain ⟨y, v, h1, _⟩ := dGet r h1
    cases h1
/-- out: the caller's slots stand as they did -/
theorem Sta.retD {σc : L2.St} {envc : Sl} (S : Sta K F R σ H env) (e : Ex F F') (S' : Sta K F' (calF R σ H env env.length p0) σc H' envc) : Sta K F' R σ H' env := by
  refine ⟨S'.sub, (calF_ex S).trans S'.fr, fun b u q => S'.dis b u (calF_ex S b u q), S.len, fun i x q => ?_, fun j b c q => ?_, S.tag, S.inj, S.xnUp e, fun P h => let ⟨h1, h2, _⟩ := S'.tab P h; ⟨h1, h2, (S.tab P h).2.2⟩⟩
  · obtain ⟨v, e1, r⟩ := S.dat i x q
    exact ⟨v, e1, r.up e⟩
  · obtain ⟨p, o, e1, e2, e3, e4, e5⟩ := S.own j b c q
    have hj : j ≠ env.length := fun z => by subst z; simp at q
    have hr := calF_own (p0 := p0) S hj q e1
    rw [e4] at hr
    exact ⟨p, o, e1, S'.dis p o hr, e3, S'.fr p o hr, e5.up e⟩
theorem RvOk.ret {σc : L2.St} {envc : Sl} {a : RV} {v : V} (S : Sta K F R σ H env) (h : RvOk K F' (calF R σ H env i p0) σc H' envc v a) (hcv : ∀ i, a ≠ .cv i) (hi : ∀ (b : Bool) c, env[i]? = some (SV.own b c) → ∀ p, a ≠ .d .non → σ[i]? = some (some (V.ref p)) → v ≠ .ref p ∨ ∃ x, a = .d x) : RvOk K F' R σ H' env v a := by
  cases a with
  | d x => exact h
  | cv i => exact absurd rfl (hcv i)
  | own c =>
    obtain ⟨p, o, e1, e2, e3, e4, e5, e6⟩ := h
    obtain ⟨h1, h2⟩ := calF_none S e3
    refine ⟨p, o, e1, e2, h1, e4, e5, fun j b c' q z => ?_⟩
    by_cases hj : j = i
    · subst hj
      rcases hi b c' q p (by simp) z with h | ⟨x, h⟩
      · exact h e1
      · cases h
    · exact h2 j b c' hj q z
end
def retV : RV → Option RV
  | .d x => some (.d x)
  | .own c => some (.own c)
  | .cv _ => none
def outD (env : Sl) : FR → Option Re
  | .ok a _ => (retV a).map (Re.ok · env)
  | .ex e _ => some (.ex e env)
def callD (m : List SV → Option FR) (dfs : List D) (fa : SA) : SE := fun env => bindA (fa env) fun as env1 => (frzs as env1).bind fun p => (m ((p.1 ++ dfs).map .d)).bind (outD p.2)
section
variable {K : PySem.W.Frag} {W : WX} {F F' : Hp} {R R' : Fm} {σ : L2.St} {H H' : Hp} {env : Sl} {Q : VK}
theorem post_out {vs : List V} {xs : List D} {fr : FR} {r : Re} (S : Sta K F R σ H env) (rv : RelAll K F vs xs) (e : outD env fr = some r) (p : PostE K W F R σ r Q) : PostF K F (calF R σ H env env.length 0) vs fr Q (WE W σ) := by
  cases fr with
  | ex x outs =>
    cases e
    exact fun cls d F' H' e1 S1 hx => p cls d F' H' e1 (S.retD e1 S1) hx
  | ok a outs =>
    have e : (retV a).map (Re.ok · env) = some r := e
    rw [Option.map_eq_some_iff] at e
    obtain ⟨a', h, rfl⟩ := e
    have ha : a' = a ∧ ∀ i, a ≠ .cv i := by
      cases a with
      | d x => cases h; exact ⟨rfl, by simp⟩
      | own c => cases h; exact ⟨rfl, by simp⟩
      | cv i => cases h
    obtain ⟨rfl, hcv⟩ := ha
    exact fun v F' H' e1 S1 rv' => p v F' H' e1 (S.retD e1 S1) (RvOk.ret S rv' hcv fun b c q => by simp at q)
theorem dE_callD {np : Nat} {m : List SV → Option FR} {dfs : List D} {dvs : List V} {fa : SA} (hd : ∀ F : Hp, RelAll K F dvs dfs) (hn : ∀ as fr, m as = some fr → as.length = np) (h : dE K W (callD m dfs fa) σ H Q) : tCallSD (spD K np m) dvs (WE W) (dA K W fa) σ H Q := by
  obtain ⟨env, F, R, r, S, e, p⟩ := h
  rcases bindA_inv e with ⟨as, env1, h1, h2⟩ | ⟨x, env1, h1, rfl⟩
  · rw [Option.bind_eq_some_iff] at h2
    obtain ⟨⟨xs, env2⟩, h3, h4⟩ := h2
    rw [Option.bind_eq_some_iff] at h4
    obtain ⟨fr, h4, h5⟩ := h4
    refine ⟨env, F, R, _, S, h1, fun vs F1 H1 R1 e1 eR S1 hv => ?_⟩
    obtain ⟨F2, R2, e2, eR2, S2, rr⟩ := frzs_held eR S1 hv h3
    have S3 := S2.unhold eR2
    have rr2 : RelAll K F2 (vs ++ dvs) (xs ++ dfs) := rr.app (hd F2)
    exact ⟨F2, calF R σ H1 env2 env2.length 0, _, fr, hn _ _ h4, S3.callD rr2, h4, post_out S3 rr2 h5 (p.up (e1.trans e2))⟩
  · exact ⟨env, F, R, _, S, h1, p⟩
end
section
variable {X : Cx} {W : WX} {CX : CXT} {k : Nat} {f : Addr} {fd : FuncData} {ps : List Str} {np : Nat} {m : List SV → Option FR} {dfs : List D} {dvs : List V} {ds : List Value} {fa : SA} {x : Str} {p pos : Pos} {e : Expr} {es : List Expr}
theorem pd_call (F : FnOk X.prog X.w X.K X.mg X.base CX k f fd ps (spD X.K np m)) (hr : Room k X.A) (hm : X.mg x = some (.ref f)) (hk : PySem.W.keepIn X.K (.ref f) = true) (hb : Binds X.K fd ps ds) (hd : Vals dvs ds) (hx : ∀ σ, PassesAt CX X σ (WE W σ)) (hD : ∀ F : Hp, RelAll X.K F dvs dfs) (hn : ∀ as fr, m as = some fr → as.length = np)
    (ha : PA X (e :: es) (dA X.K W fa)) (hg : Gl X x := by rfl) (hdb : (x == ("__debug__" : Str)) = false := by decide) (he : starEach (e :: es) X.env = (false, eval e X.env) :: starEach es X.env := by rfl) (hpl : (backTo pos (starEach es X.env)).any (·.1) = false := by rfl) :
    PE X (.Call (.Name x p) (e :: es) [] pos) (dE X.K W (callD m dfs fa)) := (pe_callSD F hr hg hm hk hb hd hx ha hdb he hpl).wk fun _ _ _ q => dE_callD hD hn q
end
end
end Dw
namespace Dw
noncomputable section
open PySem PySem.Spec PyProof.Rows L2
variable [Glo] [Tabs]
def rInt1 : List V → Hp → VK → Prop := fun xs H Q => (∃ i, xs = [.int i] ∧ Q (.int i) H) ∨ ∃ k, xs = [.bl k] ∧ Q (.int (if k then 1 else 0)) H
theorem cr_int {X : Cx} : CallR X (.type "int") rInt1 := call_int1
theorem snd_intC {K : PySem.W.Frag} : SndC K intC rInt1 := by
  intro W F R σ H env Q xs vs z S h e p
  match xs, h, e with
  | [.int i], h, e =>
    cases e
    obtain ⟨v, rfl, hv⟩ := vw1 h
    cases hv
    exact .inl ⟨i, rfl, post_d S p (.int _)⟩
  | [.bl b], h, e =>
    cases e
    obtain ⟨v, rfl, hv⟩ := vw1 h
    cases hv
    refine .inr ⟨b, rfl, post_d S p ?_⟩
    cases b <;> exact .int _
def tyD : D → String
  | .non => "NoneType"
  | .bl _ => "bool"
  | .int _ => "int"
  | .str _ => "str"
  | .lst _ => "list"
  | .tup _ => "tuple"
  | .dct _ _ => "dict"
  | .dcu _ _ => "dict"
  | .ins _ _ _ => "object"
/-- what isinstance may look at here -/
def okI : D → Bool
  | .dct _ _ => false
  | .dcu _ _ => false
  | .ins _ _ _ => false
  | _ => true
def isiD (n : String) (x : D) : Bool := match x with
  | .bl _ => n == "bool" || n == "int"
  | x => n == tyD x
theorem tupTy {K : PySem.W.Frag} {H : Hp} {a : Addr} {xs : List V} (h : SqT K H a xs) : TyX K H (.ref a) (.type "tuple") := by
  rcases h with h | h
  · rcases h with h | ⟨o, h⟩
    · exact .base (.tup h)
    · exact .fTuple h
  · obtain ⟨o, its, n, hk, hc, _⟩ := h
    exact .kTuple hk hc
theorem tyD_ok {K : PySem.W.Frag} {F H : Hp} {v : V} {x : D} (e : Ex F H) (h : Vw K F H v x) (o : okI x = true) : TyX K H v (.type (tyD x)) := by
  cases x with
  | dct _ _ => cases o
  | dcu _ _ => cases o
  | ins _ _ _ => cases o
  | non => cases h; exact .base .non
  | bl b => cases h; exact .base (.bl b)
  | int i => cases h; exact .base (.int i)
  | str s => cases h; exact .base (.str _)
  | lst xs =>
    obtain ⟨a, vs, rfl, s, r⟩ := h
    rcases s with s | ⟨o, _, _, hk, hc, _⟩
    · rcases s with s | ⟨o, s⟩
      · exact .base (.lst s)
      · exact .base (.frz s)
    · exact .kList hk hc
  | tup xs =>
    cases h with
    | tup s r => exact tupTy (ex_t e s)
theorem kit_all : ∀ a ∈ ["NoneType", "bool", "int", "str", "list", "tuple"], ∀ n ∈ ["bool", "int", "str", "list", "tuple"], kitB a n = some (n == a || (a == "bool" && n == "int")) := by decide +kernel
theorem kit_ok {n : String} (hn : n ∈ ["bool", "int", "str", "list", "tuple"]) (x : D) (o : okI x = true) : kitB (tyD x) n = some (isiD n x) := by
  have h := fun a ha => kit_all a ha n hn
  cases x with
  | dct _ _ => cases o
  | dcu _ _ => cases o
  | ins _ _ _ => cases o
  | bl b =>
    rw [show tyD (.bl b) = "bool" from rfl, h "bool" (by decide)]
    simp [isiD]
  | non => rw [show tyD .non = "NoneType" from rfl, h "NoneType" (by decide)]; simp [isiD, tyD]
  | int b => rw [show tyD (.int b) = "int" from rfl, h "int" (by decide)]; simp [isiD, tyD]
  | str b => rw [show tyD (.str b) = "str" from rfl, h "str" (by decide)]; simp [isiD, tyD]
  | lst b => rw [show tyD (.lst b) = "list" from rfl, h "list" (by decide)]; simp [isiD, tyD]
  | tup b => rw [show tyD (.tup b) = "tuple" from rfl, h "tuple" (by decide)]; simp [isiD, tyD]
def isiE (n : String) (fa : SE) : SE := fun env => bindE (fa env) fun a env1 => (pk a env1).bind fun x => if okI x then some (Re.ok (.d (.bl (isiD n x))) env1) else none
section
variable {X : Cx} {W : WX} {e : Expr} {fa : SE} {T : Str} {n : String} {p p2 pos : Pos}
theorem pd_isi (hn : n ∈ ["bool", "int", "str", "list", "tuple"]) (hm : X.mg "isinstance" = none) (hT : X.mg T = none) (hb : bootBuiltins T = some (.type n)) (ha : PE X e (dE X.K W fa)) (hgT : Gl X T := by rfl) (hTn : T ≠ "__name__" := by decide) (hTd : (T == ("__debug__" : Str)) = false := by decide) (hg : Gl X "isinstance" := by rfl)
    (he : starEach [e, .Name T p2] X.env = (false, eval e X.env) :: starEach [.Name T p2] X.env := by rfl) (he2 : starEach [.Name T p2] X.env = (false, eval (.Name T p2) X.env) :: starEach [] X.env := by rfl) (hpl : (backTo pos (starEach [.Name T p2] X.env)).any (·.1) = false := by rfl) :
    PE X (.Call (.Name "isinstance" p) [e, .Name T p2] [] pos) (dE X.K W (isiE n fa)) :=
  (pe_callB call_isi hg hm (show bootBuiltins "isinstance" = some (.builtin "isinstance") by rfl) (pa_cons ha (pa_cons (pe_bltn (v := .ty n) hgT hT hb rfl hTn hTd) pa_nil he2) he) (by decide) (by decide) he hpl).wk fun σ H Q q =>
    dE_one q fun a env F R v H1 S rv q => by
      obtain ⟨r, e1, p1⟩ := q
      rw [Option.bind_eq_some_iff] at e1
      obtain ⟨x, hx, e1⟩ := e1
      obtain ⟨o, rfl⟩ := some_if e1
      exact ⟨v, .ty n, .type (tyD x), .type n, isiD n x, rfl, .ty n, tyD_ok S.sub (pk_vw S rv hx) o, kit_ty (kit_ok hn x o), post_d S p1 (.bl _)⟩
end
def SndM (K : PySem.W.Frag) (f : D → List D → Option RV) (r : V → List V → Hp → VK → Prop) : Prop := ∀ {W : WX} {F : Hp} {R : Fm} {σ : L2.St} {H : Hp} {env : Sl} {Q : VK} {x : D} {v : V} {xs : List D} {vs : List V} {z : RV},
  Sta K F R σ H env → Vw K F H v x → VwAll K F H vs xs → f x xs = some z → PostE K W F R σ (.ok z env) Q → r v vs H Q
def metE (T : String) (f : D → List D → Option RV) (fo : SE) (fa : SA) : SE := fun env => bindE (fo env) fun a env1 => (pk a env1).bind fun x0 => if tyD x0 = T then bindA (fa env1) fun as env2 => (pk a env2).bind fun x => (pks as env2).bind fun xs => (f x xs).map (Re.ok · env2) else none
theorem tyV_d {K : PySem.W.Frag} {F H : Hp} {v : V} {x : D} {T : String} (h : Vw K F H v x) (e : tyD x = T) (hT : T = "str" ∨ T = "list") : tyV K T v H := by
  cases x with
  | str s => cases h; exact e.symm
  | lst xs =>
    obtain ⟨a, vs, rfl, s, r⟩ := h
    exact .inl ⟨e.symm, vs, s⟩
  | dct _ _ => subst e; rcases hT with h | h <;> simp [tyD] at h
  | dcu _ _ => subst e; rcases hT with h | h <;> simp [tyD] at h
  | ins _ _ _ => subst e; rcases hT with h | h <;> simp [tyD] at h
  | _ => subst e; rcases hT with h | h <;> simp [tyD] at h
section
variable {K : PySem.W.Frag} {W : WX} {F F' : Hp} {R R' : Fm} {σ : L2.St} {H H' : Hp} {env : Sl} {Q : VK}
theorem PostA.un {QA : List V → Hp → Prop} (e : FEx R R') : ∀ {r : ReA}, PostA K W F R σ r QA → PostA K W F R' σ r QA
  | .ok _ _, h => fun vs F2 H2 R2 e2 eR s q => h vs F2 H2 R2 e2 (e.trans eR) s (q.low e)
  | .ex _ _, h => fun c d F2 H2 e2 s q => h c d F2 H2 e2 (s.unhold e) q
theorem dE_met {T : String} {f : D → List D → Option RV} {r : V → List V → Hp → VK → Prop} {fo : SE} {fa : SA} (hT : T = "str" ∨ T = "list") (hs : SndM K f r) (h : dE K W (metE T f fo fa) σ H Q) : tBM K T r (dE K W fo) (dA K W fa) σ H Q := by
  obtain ⟨env, F, R, S, q⟩ := of_dE h
  refine dE_of S (atE_bind q fun a env1 F1 v H1 e1 S1 rv q1 => ?_)
  obtain ⟨r', e, p⟩ := q1
  rw [Option.bind_eq_some_iff] at e
  obtain ⟨x0, h1, e⟩ := e
  obtain ⟨hty, e⟩ := (show tyD x0 = T ∧ _ = some r' by
    by_cases hc : tyD x0 = T
    · rw [if_pos hc] at e; exact ⟨hc, e⟩
    · rw [if_neg hc] at e; cases e)
  refine ⟨tyV_d (pk_vw S1 rv h1) hty hT, ?_⟩
  obtain ⟨R', eR, S1', hd⟩ := hold S1 rv
  rcases bindA_inv e with ⟨as, env2, h2, h3⟩ | ⟨x, env2, h2, rfl⟩
  · rw [Option.bind_eq_some_iff] at h3
    obtain ⟨x, h4, h3⟩ := h3
    rw [Option.bind_eq_some_iff] at h3
    obtain ⟨xs, h5, h3⟩ := h3
    rw [Option.map_eq_some_iff] at h3
    obtain ⟨z, h6, rfl⟩ := h3
    refine ⟨env1, F1, R', _, S1', h2, fun vs F2 H2 R2 e2 eR2 S2 hv => ?_⟩
    have S3 := S2.unhold eR2
    exact hs (S3.unhold eR) (pk_vw (S3.unhold eR) (unheld e2 eR S3 hd) h4) (pks_vw eR2 S2 hv h5) h6 (p.up e2)
  · exact ⟨env1, F1, R', _, S1', h2, fun cls d F2 H2 e2 S2 hx => p cls d F2 H2 e2 (S2.unhold eR) hx⟩
end
section
variable {X : Cx} {W : WX} {o e : Expr} {es : List Expr} {fo : SE} {fa : SA} {apos pos : Pos} {T id : String} {name : Str} {f : D → List D → Option RV} {r : V → List V → Hp → VK → Prop}
theorem pd_met (hT : T = "str" ∨ T = "list") (pa : PlainAttrs T) (slot : Slot T name id) (hty : typeOf (.builtin id) = pure (.type "method_descriptor")) (hm : MtR X id r) (hs : SndM X.K f r) (ho : PE X o (dE X.K W fo)) (ha : PA X (e :: es) (dA X.K W fa))
    (hbase : attributeBase o name X.env (eval o X.env) = eval o X.env := by rfl)
    (hfew : ((backTo pos (starEach (e :: es) X.env)).all (fun x => !x.1) && (backToKw pos (keywordEach [] X.env)).all (fun x => x.1.isSome)
      && decide ((e :: es).length + ([] : List Keyword).length + (if ([] : List Keyword).isEmpty then 0 else 1) < 30)) = true := by rfl)
    (hline : (apos.endLine == pos.line) = true := by rfl) (hs' : starEach (e :: es) X.env = (false, eval e X.env) :: starEach es X.env := by rfl) (hplain : (backTo pos (starEach es X.env)).any (·.1) = false := by rfl) :
    PE X (.Call (.Attribute o name apos) (e :: es) [] pos) (dE X.K W (metE T f fo fa)) := (pe_bm pa slot hty hm ho ha hbase hfew hline hs' hplain).wk fun _ _ _ q => dE_met hT hs q
end
def txts : List D → Option (List (List Nat))
  | [] => some []
  | .str x :: r => (txts r).map (x :: ·)
  | _ => none
end
end Dw
namespace Dw
noncomputable section
open PySem PySem.Spec PyProof.Rows L2
variable [Glo] [Tabs]
section
variable {K : PySem.W.Frag} {W : WX} {F F' : Hp} {R R' : Fm} {σ : L2.St} {H H' : Hp} {env : Sl} {Q : VK}
theorem Sta.mut (S : Sta K F R σ H env) {i : Nat} {b : Bool} {c c' : C} {p : Addr} {o' : HO} (hi : env[i]? = some (.own b c)) (e : σ[i]? = some (some (V.ref p))) (h : CellOk K F p o' c') : Sta K F R σ (upd H p o') (env.set i (.own b c')) := by
  obtain ⟨q, o, e1, hF, hR, hp, hcell⟩ := S.own i b c hi
  rw [e] at e1
  cases e1
  have hl : i < env.length := (List.getElem?_eq_some_iff.mp hi).1
  have other : ∀ {j : Nat} {b1 : Bool} {c1 : C}, (env.set i (.own b c'))[j]? = some (SV.own b1 c1) → (j = i ∧ b1 = b ∧ c1 = c') ∨ (j ≠ i ∧ env[j]? = some (SV.own b1 c1)) := fun {j b1 c1} h => by
    by_cases hj : j = i
    · subst hj
      rw [List.getElem?_set_self hl] at h
      cases h
      exact .inl ⟨rfl, rfl, rfl⟩
    · rw [List.getElem?_set_ne (Ne.symm hj)] at h
      exact .inr ⟨hj, h⟩
  have keep : ∀ {a : Addr} {u : HO}, a ≠ p → H a = some u → upd H p o' a = some u := fun ha q => by rw [upd_ne ha]; exact q
  refine ⟨fun a u q => keep (fun z => by rw [z, hF] at q; cases q) (S.sub a u q), fun a u q => keep (fun z => by rw [z, hR] at q; cases q) (S.fr a u q), S.dis, by rw [List.length_set]; exact S.len, fun j x q => ?_, fun j b1 c1 q => ?_, fun j c1 q => ?_, fun j k bj cj bk ck a h1 h2 h3 h4 => ?_, fun j x q => (S.xnNe (Ex.refl F) (fun y z => by cases z) j x q).2, fun P h => let ⟨⟨ps, h1, h2⟩, h3⟩ := S.tab P h; ⟨⟨ps, keep (fun z => by rw [z, hp] at h1; exact hcell.noT ps (Option.some.inj h1)) h1, h2⟩, h3⟩⟩
  · by_cases hj : j = i
    · subst hj
      rw [List.getElem?_set_self hl] at q
      cases q
    · rw [List.getElem?_set_ne (Ne.symm hj)] at q
      exact S.dat j x q
  · rcases other q with ⟨rfl, rfl, rfl⟩ | ⟨hj, q⟩
    · exact ⟨p, o', e, hF, hR, upd_same, h⟩
    · obtain ⟨a, o1, z1, z2, z3, z4, z5⟩ := S.own j b1 c1 q
      exact ⟨a, o1, z1, z2, z3, keep (fun z => hj (S.inj j i _ _ _ _ p q hi (by rw [← z]; exact z1) e)) z4, z5⟩
  · rcases other q with ⟨rfl, h1, h2⟩ | ⟨hj, q⟩
    · subst h1; exact S.tag j c hi
    · exact S.tag j c1 q
  · have get : ∀ {j : Nat} {b1 : Bool} {c1 : C}, (env.set i (.own b c'))[j]? = some (SV.own b1 c1) → ∃ b2 c2, env[j]? = some (SV.own b2 c2) := fun q => by
      rcases other q with ⟨rfl, _, _⟩ | ⟨_, q⟩
      · exact ⟨_, _, hi⟩
      · exact ⟨_, _, q⟩
    obtain ⟨_, _, g1⟩ := get h1
    obtain ⟨_, _, g2⟩ := get h2
    exact S.inj j k _ _ _ _ a g1 g2 h3 h4
def SndU (K : PySem.W.Frag) (f : List D → List D → Option (D × List D)) (r : V → List V → Hp → VK → Prop) : Prop := ∀ {F H : Hp} {Q : VK} {l : Addr} {ws vs : List V} {ys xs : List D} {z : D × List D},
  Ex F H → H l = some (.lst ws) → RelAll K F ws ys → RelAll K F vs xs → f ys xs = some z → (∀ v ws', Rel K F v z.1 → RelAll K F ws' z.2 → Q v (upd H l (.lst ws'))) → r (.ref l) vs H Q
def ownL : Option SV → Option (Bool × List D)
  | some (.own b (.lst ys)) => some (b, ys)
  | _ => none
def mutE (f : List D → List D → Option (D × List D)) (fo : SE) (fa : SA) : SE := fun env => bindE (fo env) fun a env1 => match a with
  | .cv i => (ownL env1[i]?).bind fun _ => bindA (fa env1) fun as env2 => (frzs as env2).bind fun p => (ownL p.2[i]?).bind fun o => (f o.2 p.1).map fun q => Re.ok (.d q.1) (p.2.set i (.own o.1 (.lst q.2)))
  | _ => none
theorem ownL_some {s : Option SV} {b : Bool} {ys : List D} (h : ownL s = some (b, ys)) : s = some (.own b (.lst ys)) := by
  cases s with
  | none => cases h
  | some s =>
    cases s with
    | own b c =>
      cases c with
      | lst _ => cases h; rfl
      | dct _ _ => cases h
      | dcu _ _ => cases h
      | ins _ _ _ => cases h
    | un => cases h
    | xn _ => cases h
    | d x => cases h
theorem dE_mut {f : List D → List D → Option (D × List D)} {r : V → List V → Hp → VK → Prop} {fo : SE} {fa : SA} (hs : SndU K f r) (h : dE K W (mutE f fo fa) σ H Q) : tBM K "list" r (dE K W fo) (dA K W fa) σ H Q := by
  obtain ⟨env, F, R, S, q⟩ := of_dE h
  refine dE_of S (atE_bind q fun a env1 F1 v H1 e1 S1 rv q1 => ?_)
  obtain ⟨r', e, p⟩ := q1
  cases a with
  | d x => cases e
  | own c => cases e
  | cv i =>
    have rv : σ[i]? = some (some v) := rv
    have e : ((ownL env1[i]?).bind fun _ => bindA (fa env1) fun as env2 => (frzs as env2).bind fun p => (ownL p.2[i]?).bind fun o => (f o.2 p.1).map fun q => Re.ok (.d q.1) (p.2.set i (.own o.1 (.lst q.2)))) = some r' := e
    rw [Option.bind_eq_some_iff] at e
    obtain ⟨⟨b0, y0⟩, h1, e⟩ := e
    obtain ⟨p0, o0, z1, _, _, z4, ws0, rfl, _⟩ := S1.own i _ _ (ownL_some h1)
    rw [rv] at z1
    cases z1
    refine ⟨.inl ⟨rfl, ws0, .inl (Rd.of z4)⟩, ?_⟩
    rcases bindA_inv e with ⟨as, env2, h2, h3⟩ | ⟨x, env2, h2, rfl⟩
    · rw [Option.bind_eq_some_iff] at h3
      obtain ⟨⟨xs, env3⟩, h4, h3⟩ := h3
      rw [Option.bind_eq_some_iff] at h3
      obtain ⟨⟨b, ys⟩, h5, h3⟩ := h3
      rw [Option.map_eq_some_iff] at h3
      obtain ⟨⟨d, zs⟩, h6, rfl⟩ := h3
      refine ⟨env1, F1, R, _, S1, h2, fun vs F2 H2 R2 e2 eR2 S2 hv => ?_⟩
      obtain ⟨F3, R3, e3, eR3, S3, rr⟩ := frzs_held eR2 S2 hv h4
      have S4 := S3.unhold eR3
      have h5 := ownL_some h5
      obtain ⟨p1, o1, z1, z2, z3, z4, ws, rfl, z5⟩ := S4.own i _ _ h5
      rw [rv] at z1
      cases z1
      exact hs S4.sub z4 z5 rr h6 fun v ws' r1 r2 => p v F3 _ (e2.trans e3) (S4.mut h5 rv ⟨ws', rfl, r2⟩) r1
    · exact ⟨env1, F1, R, _, S1, h2, p⟩
end
def appU : List D → List D → Option (D × List D)
  | ys, [x] => if ys.length < 100000 then some (.non, ys ++ [x]) else none
  | _, _ => none
theorem rel1 {K : PySem.W.Frag} {F : Hp} {vs : List V} {x : D} (h : RelAll K F vs [x]) : ∃ v, vs = [v] ∧ Rel K F v x := by
  cases h with
  | cons a b => cases b; exact ⟨_, rfl, a⟩
theorem snd_app {K : PySem.W.Frag} : SndU K appU rAppend := by
  intro F H Q l ws vs ys xs z eF hl rw' rv e q
  match xs, rv, e with
  | [x], rv, e =>
    obtain ⟨c, rfl⟩ := some_if e
    obtain ⟨v, rfl, r⟩ := rel1 rv
    refine ⟨l, ws, v, rfl, rfl, hl, ?_, q .non _ .non (rw'.app (.cons r .nil))⟩
    rw [rw'.len]
    exact Nat.lt_of_lt_of_le c (by decide)
section
variable {X : Cx} {W : WX} {o e : Expr} {es : List Expr} {fo : SE} {fa : SA} {apos pos : Pos} {id : String} {name : Str} {f : List D → List D → Option (D × List D)} {r : V → List V → Hp → VK → Prop}
theorem pd_mut (slot : Slot "list" name id) (hty : typeOf (.builtin id) = pure (.type "method_descriptor")) (hm : MtR X id r) (hs : SndU X.K f r) (ho : PE X o (dE X.K W fo)) (ha : PA X (e :: es) (dA X.K W fa))
    (hbase : attributeBase o name X.env (eval o X.env) = eval o X.env := by rfl)
    (hfew : ((backTo pos (starEach (e :: es) X.env)).all (fun x => !x.1) && (backToKw pos (keywordEach [] X.env)).all (fun x => x.1.isSome)
      && decide ((e :: es).length + ([] : List Keyword).length + (if ([] : List Keyword).isEmpty then 0 else 1) < 30)) = true := by rfl)
    (hline : (apos.endLine == pos.line) = true := by rfl) (hs' : starEach (e :: es) X.env = (false, eval e X.env) :: starEach es X.env := by rfl) (hplain : (backTo pos (starEach es X.env)).any (·.1) = false := by rfl) :
    PE X (.Call (.Attribute o name apos) (e :: es) [] pos) (dE X.K W (mutE f fo fa)) := (pe_bm F.plainAttrs_list slot hty hm ho ha hbase hfew hline hs' hplain).wk fun _ _ _ q => dE_mut hs q
theorem pd_append (ho : PE X o (dE X.K W fo)) (ha : PA X [e] (dA X.K W fa)) (hbase : attributeBase o "append" X.env (eval o X.env) = eval o X.env := by rfl)
    (hfew : ((backTo pos (starEach [e] X.env)).all (fun x => !x.1) && (backToKw pos (keywordEach [] X.env)).all (fun x => x.1.isSome)
      && decide ([e].length + ([] : List Keyword).length + (if ([] : List Keyword).isEmpty then 0 else 1) < 30)) = true := by rfl)
    (hline : (apos.endLine == pos.line) = true := by rfl) (hs' : starEach [e] X.env = (false, eval e X.env) :: starEach [] X.env := by rfl) (hplain : (backTo pos (starEach [] X.env)).any (·.1) = false := by rfl) :
    PE X (.Call (.Attribute o "append" apos) [e] [] pos) (dE X.K W (mutE appU fo fa)) := pd_mut F.slot_list_append F.type_list_append mt_append snd_app ho ha hbase hfew hline hs' hplain
end
end
end Dw
namespace Dw
noncomputable section
open PySem PySem.Spec PyProof.Rows L2
variable [Glo] [Tabs]
def rLtD (K : PySem.W.Frag) : R2 := fun x y H Q => ∃ d e, Dp K H x d ∧ Dp K H y e ∧ PySem.W.alike d e = true ∧ d ≠ .none ∧ d.depth ≤ 64 ∧ Q (.bl (PySem.W.dataLt d e)) H
theorem op_ltD {X : Cx} (hu : X.A.units + 64 < cLine) : OpR X (compareOp .Lt) (rLtD X.K) := by
  intro pins s σ H x y v u Q I rx ry h
  obtain ⟨d, e, hd, he, ha, hn, hz, q⟩ := h
  obtain ⟨as, r1⟩ := Dp.reads I d x v hd rx
  obtain ⟨bs, r2⟩ := Dp.reads I e y u he ry
  exact PySem.W.rcLt_alike d e X.A s v u as bs r1 r2 ha hn (by omega) X.prog X.w _ _ ⟨.bl _, H, I, rfl, q⟩
mutual
def ltB : D → D → Bool
  | .bl a, .bl b => decide (b2i a < b2i b)
  | .int a, .int b => decide (a < b)
  | .str a, .str b => decide (a < b)
  | .lst a, .lst b => ltBs a b
  | .tup a, .tup b => ltBs a b
  | _, _ => false
def ltBs : List D → List D → Bool
  | x :: xs, y :: ys => if eqB x y then ltBs xs ys else ltB x y
  | [], _ :: _ => true
  | _, [] => false
end
mutual
def alk : D → D → Bool
  | .non, .non => true
  | .bl _, .bl _ => true
  | .int _, .int _ => true
  | .str _, .str _ => true
  | .lst a, .lst b => alks a b
  | .tup a, .tup b => alks a b
  | _, _ => false
def alks : List D → List D → Bool
  | x :: xs, y :: ys => alk x y && alks xs ys
  | _, _ => true
end
mutual
theorem alk_py : ∀ x y : D, PySem.W.alike (py x) (py y) = alk x y
  | .non, y => by cases y <;> simp [py, PySem.W.alike, alk]
  | .bl _, y => by cases y <;> simp [py, PySem.W.alike, alk]
  | .int _, y => by cases y <;> simp [py, PySem.W.alike, alk]
  | .str _, y => by cases y <;> simp [py, PySem.W.alike, alk]
  | .lst xs, y => by
    cases y with
    | lst ys => simp [py, PySem.W.alike, alk, alks_py xs ys]
    | _ => simp [py, PySem.W.alike, alk]
  | .tup xs, y => by
    cases y with
    | tup ys => simp [py, PySem.W.alike, alk, alks_py xs ys]
    | _ => simp [py, PySem.W.alike, alk]
  | .dct _ _, y => by cases y <;> simp [py, PySem.W.alike, alk]
  | .dcu _ _, y => by cases y <;> simp [py, PySem.W.alike, alk]
  | .ins _ _ _, y => by cases y <;> simp [py, PySem.W.alike, alk]
theorem alks_py : ∀ xs ys : List D, PySem.W.alikeAll (pys xs) (pys ys) = alks xs ys
  | [], ys => by cases ys <;> simp [pys, PySem.W.alikeAll, alks]
  | _ :: _, [] => by simp [pys, PySem.W.alikeAll, alks]
  | x :: xs, y :: ys => by simp [pys, PySem.W.alikeAll, alks, alk_py x y, alks_py xs ys]
end
mutual
theorem ltB_py : ∀ x y : D, alk x y = true → x ≠ .non → PySem.W.dataLt (py x) (py y) = ltB x y
  | .non, y, _, h => absurd rfl h
  | .bl a, y, h, _ => by
    cases y <;> first | (simp [alk] at h; done) | skip
    exact PySem.W.dataLt_bool _ _
  | .int a, y, h, _ => by
    cases y <;> first | (simp [alk] at h; done) | skip
    exact PySem.W.dataLt_int _ _
  | .str a, y, h, _ => by
    cases y <;> first | (simp [alk] at h; done) | skip
    exact PySem.W.dataLt_str _ _
  | .lst xs, y, h, _ => by
    cases y <;> first | (simp [alk] at h; done) | skip
    rename_i ys
    rw [alk] at h
    rw [py, py, PySem.W.dataLt_list, ltB, ltBs_py xs ys h]
  | .tup xs, y, h, _ => by
    cases y <;> first | (simp [alk] at h; done) | skip
    rename_i ys
    rw [alk] at h
    rw [py, py, PySem.W.dataLt_tuple, ltB, ltBs_py xs ys h]
theorem ltBs_py : ∀ xs ys : List D, alks xs ys = true → PyProof.Rows.lexLt PyProof.Rows.itemOrd (PySem.W.keyToksAll (pys xs)) (PySem.W.keyToksAll (pys ys)) = ltBs xs ys
  | [], [], _ => by simp [pys, PySem.W.keyToksAll, ltBs, PyProof.Rows.lex_irrefl]
  | [], y :: ys, _ => by
    rw [pys, pys, PySem.W.toks_all_cons]
    simp only [PySem.W.keyToksAll]
    rw [PyProof.Rows.lex_diff (O := PyProof.Rows.itemOrd) (by simp)]
    simp [PyProof.Rows.itemLt, ltBs]
  | x :: xs, [], _ => by
    rw [pys, pys, PySem.W.toks_all_cons]
    simp only [PySem.W.keyToksAll]
    rw [PyProof.Rows.lex_diff (O := PyProof.Rows.itemOrd) (by simp)]
    simp [PyProof.Rows.itemLt, ltBs]
  | x :: xs, y :: ys, h => by
    rw [alks, Bool.and_eq_true] at h
    rw [pys, pys, ltBs]
    have ha : PySem.W.alike (py x) (py y) = true := by rw [alk_py]; exact h.1
    cases e : eqB x y with
    | true => rw [if_pos rfl, PySem.W.dataLt_all_yes ha (by rw [eqv_py]; exact e), ltBs_py xs ys h.2]
    | false =>
      rw [if_neg Bool.false_ne_true, PySem.W.dataLt_all_no ha (by rw [eqv_py]; exact e)]
      exact ltB_py x y h.1 fun z => by
        subst z
        cases y <;> first | (simp [alk] at h; done) | skip
        simp [eqB] at e
end
def seqD : D → Bool
  | .lst _ => true
  | .tup _ => true
  | _ => false
def ltG (x y : D) : Option RV := match x, y with
  | .int i, .int j => some (.d (.bl (decide (i < j))))
  | .str x, .str y => some (.d (.bl (decide (x < y))))
  | x, y => if ((seqD x && alk x y) && (dpl x && dpl y)) && decide ((py x).depth ≤ 64) then some (.d (.bl (ltB x y))) else none
def rLtG (K : PySem.W.Frag) : R2 := rOr rLtAny (rLtD K)
theorem snd_ltG {K : PySem.W.Frag} : Snd2 K ltG (rLtG K) := by
  intro W F R σ H env Q x y v w z S hx hy e p
  have go : (if ((seqD x && alk x y) && (dpl x && dpl y)) && decide ((py x).depth ≤ 64) then some (RV.d (.bl (ltB x y))) else none) = some z → rLtG K v w H Q := fun e => by
    obtain ⟨c, rfl⟩ := some_if e
    rw [Bool.and_eq_true, Bool.and_eq_true, Bool.and_eq_true, Bool.and_eq_true, decide_eq_true_eq] at c
    have hn : x ≠ .non := fun z => by subst z; simp [seqD] at c
    refine .inr ⟨py x, py y, (hx.rel S.sub).dp _ c.1.2.1, (hy.rel S.sub).dp _ c.1.2.2, by rw [alk_py]; exact c.1.1.2, fun z => ?_, c.2, ?_⟩
    · cases x <;> first | exact hn rfl | (simp [py] at z)
    · rw [ltB_py x y c.1.1.2 hn]
      exact post_d S p (.bl _)
  cases x with
  | int i =>
    cases y with
    | int j => exact .inl (snd_lt S hx hy e p)
    | _ => exact go e
  | str i =>
    cases y with
    | str j => exact .inl (snd_lt S hx hy e p)
    | _ => exact go e
  | _ => exact go e
theorem bl_ltG {x y : D} {z : RV} (h : ltG x y = some z) : ∃ b, z = .d (.bl b) := by
  have go : (if ((seqD x && alk x y) && (dpl x && dpl y)) && decide ((py x).depth ≤ 64) then some (RV.d (.bl (ltB x y))) else none) = some z → ∃ b, z = .d (.bl b) := fun e => by
    obtain ⟨c, rfl⟩ := some_if e
    exact ⟨_, rfl⟩
  cases x with
  | int i =>
    cases y with
    | int j => cases h; exact ⟨_, rfl⟩
    | _ => exact go h
  | str i =>
    cases y with
    | str j => cases h; exact ⟨_, rfl⟩
    | _ => exact go h
  | _ => exact go h
section
variable {X : Cx} {W : WX} {a b : Expr} {fa fb : SE} {pos : Pos}
theorem pd_ltg (hu : X.A.units + 64 < cLine) (ha : PE X a (dE X.K W fa)) (hb : PE X b (dE X.K W fb)) : PE X (.Compare a [.Lt] [b] pos) (dE X.K W (two (op2 ltG) fa fb)) := pd_cmp (OpR.or (OpR.or op_lt op_lt_str) (op_ltD hu)) snd_ltG (nomark _) ha hb
theorem pt_ltg (hu : X.A.units + 64 < cLine) (ha : PE X a (dE X.K W fa)) (hb : PE X b (dE X.K W fb)) : PT X (.Compare a [.Lt] [b] pos) (dT X.K W (two (op2 ltG) fa fb)) := pt_dcmp (OpR.or (OpR.or op_lt op_lt_str) (op_ltD hu)) snd_ltG (fun _ _ _ => bl_ltG) (nomark _) ha hb
end
def negD : D → Option RV
  | .int i => some (.d (.int (-i)))
  | _ => none
def oneE (f : D → Option RV) (fa : SE) : SE := fun env => bindE (fa env) fun a env1 => (pk a env1).bind fun x => (f x).map (Re.ok · env1)
def noX : Option FR → Option FR
  | some (.ok a o) => some (.ok a o)
  | _ => none
def defM (np n : Nat) (body : SS) (args : List SV) : Option FR := if args.length = np then noX (runF n body args) else none
theorem defM_len {np n : Nat} {body : SS} : ∀ as fr, defM np n body as = some fr → as.length = np := fun as fr h => by
  unfold defM at h
  by_cases c : as.length = np
  · exact c
  · rw [if_neg c] at h; cases h
section
variable {P : Program} {w : World} {K : PySem.W.Frag} {mg : Str → Option Value} {base : Heap}
theorem fnd {x qual : Str} {st : Stmt} {f : Addr} {fd : FuncData} {N ps : List Str} {k n : Nat} {body : SS} (F : Fun K x qual st f fd) (S : FnScope N ps (defScope st)) (hn : N.length = ps.length + n)
    (hb : ∀ (cdv : Value) (A : Around) (outer : List Env) (s : Shared) (H : Hp) (E : XK), Room k (A.deeper (envOfC qual (defScope st) s.heap.objs.size f cdv)) → PSs (cxOf CX0 P w K mg base N qual (defScope st) f cdv A outer s H E).nox (defBody st) (dS K W0 body)) :
    FnOk P w K mg base CX0 (k + 1) f fd ps (spD K ps.length (defM ps.length n body)) := (fnd_ok (n := n) F S hn fun cdv _ => hb cdv).imp fun vs H Q E h => by
  obtain ⟨F, R, args, r, h1, h2, h3, h4⟩ := h
  refine ⟨F, R, args, r, h1, h2, ?_, h4⟩
  unfold defM at h3
  rw [if_pos h1] at h3
  exact h3
end
end
end Dw
namespace Dw
noncomputable section
open PySem PySem.Spec PyProof.Rows L2
variable [Glo] [Tabs]
section
variable {X : Cx} {W : WX} {a : Expr} {fa : SE} {pos : Pos}
theorem snd_neg {K : PySem.W.Frag} {F : Hp} {R : Fm} {σ : L2.St} {H : Hp} {env : Sl} {Q : VK} {x : D} {v : V} {z : RV} (S : Sta K F R σ H env) (hx : Vw K F H v x) (e : negD x = some z) (p : PostE K W F R σ (.ok z env) Q) : rU (fun i => .int (-i)) v H Q := by
  cases x with
  | int i =>
    cases hx
    cases e
    exact ⟨i, rfl, post_d S p (.int _)⟩
  | _ => cases e
theorem pd_neg (ha : PE X a (dE X.K W fa)) : PE X (.UnaryOp .USub a pos) (dE X.K W (oneE negD fa)) := (pe_un un_neg ha).wk fun σ H Q q =>
  dE_one q fun a env F R v H1 S rv q => by
    obtain ⟨r, e1, p1⟩ := q
    rw [Option.bind_eq_some_iff] at e1
    obtain ⟨x, hx, e1⟩ := e1
    rw [Option.map_eq_some_iff] at e1
    obtain ⟨z, hz, rfl⟩ := e1
    exact snd_neg S (pk_vw S rv hx) hz p1
end
def blkB (N : List Str) (sc scope : Scope) (own : List (Str × Nat)) : Bool :=
  decide (scope.kind = .function) && scope.names.all (fun y => decide (scope.names.lookup y.1 = some y.2)) && own.all (fun p => decide (N[p.2]? = some p.1)) &&
  scope.names.all (fun y => !decide (y.2 = .free) || decide (sc.names.lookup y.1 = some .cell) || decide (sc.names.lookup y.1 = some .free)) &&
  scope.names.all (fun y => !(decide (y.2 = .local) || decide (y.2 = .cell)) || decide (y.1 ∈ own.map (·.1)) || decide (y.1 ∉ N))
theorem blk_of {N : List Str} {sc scope : Scope} {own : List (Str × Nat)} (h : blkB N sc scope own = true) : BlkOk N sc scope own := by
  unfold blkB at h
  simp only [Bool.and_eq_true, decide_eq_true_eq, List.all_eq_true, Bool.or_eq_true, Bool.not_eq_true', decide_eq_false_iff_not, Bool.or_eq_false_iff] at h
  obtain ⟨⟨⟨⟨h1, h2⟩, h3⟩, h4⟩, h5⟩ := h
  refine ⟨h1, h2, h3, fun y hy hf => ?_, fun y hy hf => ?_⟩
  · rcases h4 y hy with (h | h) | h
    · exact absurd hf h
    · exact .inl h
    · exact .inr h
  · rcases h5 y hy with (h | h) | h
    · rcases hf with hf | hf
      · exact absurd hf h.1
      · exact absurd hf h.2
    · exact .inl h
    · exact .inr h
structure Def (P : Program) (w : World) (K : PySem.W.Frag) (mg : Str → Option Value) (base : Heap) (k : Nat) (x : Str) (np : Nat) (m : List SV → Option FR) (dfs : List D) : Prop where
  ex : ∃ (f : Addr) (fd : FuncData) (ps : List Str) (ds : List Value) (dvs : List V), FnOk P w K mg base CX0 k f fd ps (spD K np m) ∧ mg x = some (.ref f) ∧ PySem.W.keepIn K (.ref f) = true ∧ Binds K fd ps ds ∧ Vals dvs ds ∧ (∀ F : Hp, RelAll K F dvs dfs) ∧ ∀ as fr, m as = some fr → as.length = np
theorem Def.mk0 {P : Program} {w : World} {K : PySem.W.Frag} {mg : Str → Option Value} {base : Heap} {k : Nat} {x : Str} {np n : Nat} {body : SS} {f : Addr} {fd : FuncData} {ps : List Str} (F : FnOk P w K mg base CX0 k f fd ps (spD K np (defM np n body))) (hm : mg x = some (.ref f)) (hk : PySem.W.keepIn K (.ref f) = true) (hb : Binds K fd ps []) : Def P w K mg base k x np (defM np n body) [] :=
  ⟨f, fd, ps, [], [], F, hm, hk, hb, .nil, fun _ => .nil, defM_len⟩
theorem r65 {k : Nat} {A : Around} (hr : Room k A) : A.units + 65 < cLine := by have := hr.un; omega
theorem pd_callN {X : Cx} {W : WX} {k j : Nat} {x : Str} {np : Nat} {m : List SV → Option FR} {dfs : List D} {fa : SA} {p pos : Pos} {e : Expr} {es : List Expr} (C : Def X.prog X.w X.K X.mg X.base k x np m dfs) (hr : Room j X.A) (hj : k ≤ j) (ha : PA X (e :: es) (dA X.K W fa)) (hg : Gl X x := by rfl)
    (hdb : (x == ("__debug__" : Str)) = false := by decide) (he : starEach (e :: es) X.env = (false, eval e X.env) :: starEach es X.env := by rfl) (hpl : (backTo pos (starEach es X.env)).any (·.1) = false := by rfl) :
    PE X (.Call (.Name x p) (e :: es) [] pos) (dE X.K W (callD m dfs fa)) := by
  obtain ⟨f, fd, ps, ds, dvs, h1, h2, h3, h4, h5, h6, h7⟩ := C.ex
  exact pd_call h1 (hr.mono hj) h2 h3 h4 h5 (fun σ pins H s e s' I c => c.elim) h6 h7 ha hg hdb he hpl
def Fm0 : Fm := ⟨fun _ => none, fun _ => 0, fun _ => False⟩
theorem fm0 {b : Addr} {u : HO} {p : Prop} (q : Fm0.r b = some u) : p := by
  have q : (none : Option HO) = some u := q
  cases q
theorem law_sp {K : PySem.W.Frag} {H : Hp} {a : Addr} {ns : List Int} {m : List SV → Option FR} {o : List SV} {E : XK} (hT : ∀ P, Tabs.T P → H P = some (.tbl #[])) (hS : SqL K H a (ns.map V.int)) (h : m [.d (.lst (ns.map .int))] = some (.ok (.d (.bl true)) o)) : spD K 1 m [.ref a] H (fun v _ => v = .bl true) E := by
  classical
  have hF : ∀ b, Tabs.T b → (fun b => if Tabs.T b then none else H b : Hp) b = none := fun b q => if_pos q
  have hG : ∀ b u, (fun b => if Tabs.T b then none else H b : Hp) b = some u → H b = some u := fun b u q => by
    by_cases z : Tabs.T b
    · rw [hF b z] at q; cases q
    · have q : (if Tabs.T b then none else H b) = some u := q
      rwa [if_neg z] at q
  have hS2 : SqL K (fun b => if Tabs.T b then none else H b : Hp) a (ns.map V.int) := by
    have nt : (∀ ps, H a ≠ some (.tbl ps)) → (fun b => if Tabs.T b then none else H b : Hp) a = H a := fun q => if_neg fun z => by
      exact q _ (hT a z)
    rcases hS with hS | hS
    · refine .inl ?_
      rcases hS with e | ⟨ob, e⟩
      · exact .inl ((nt fun ps z => by rw [e] at z; cases z).trans e)
      · exact .inr ⟨ob, (nt fun ps z => by rw [e] at z; cases z).trans e⟩
    · exact .inr hS
  refine ⟨_, Fm0, [.d (.lst (ns.map .int))], _, rfl, ⟨hG, fun b u q => fm0 q, fun b u q => fm0 q, rfl, fun i x e => ?_, fun i b c e => ?_, fun i c e => ?_, fun i j bi ci bj cj p h1 _ _ _ => ?_, fun i x e => (by rcases i with _ | i <;> simp at e), fun P h => ⟨⟨_, hT P h, trivial, fun q _ pos cv hc => by unfold codeAmong at hc; cases hc⟩, hF P h, rfl⟩⟩, h, fun v F' H' _ _ rv => ?_⟩
  · match i, e with
    | 0, e =>
      cases e
      exact ⟨_, rfl, .lst hS2 (RelAll.ints ns)⟩
  · match i, e with
    | 0, e => cases e
  · match i, e with
    | 0, e => cases e
  · match i, h1 with
    | 0, e => cases e
  · have rv : Rel K F' v (.bl true) := rv
    cases rv
    rfl
end
end Dw
namespace Dw
noncomputable section
open PySem PySem.Spec PyProof.Rows L2
variable [Glo] [Tabs]
section
variable {env env1 env2 env3 : Sl} {a b : RV} {x y : D} {z : RV} {i : Nat} {f : D → D → Option RV} {fa fb fc fo : SE} {as : List RV} {fr fs : SA} {xs ys : List D} {r : Re}
@[simp] theorem ev_const : constE x env = some (.ok (.d x) env) := rfl
theorem ev_var (h : env[i]? = some (.d x)) : varE i env = some (.ok (.d x) env) := by unfold varE; rw [h]; rfl
theorem ev_varO {c : C} {t : Bool} (h : env[i]? = some (.own t c)) : varE i env = some (.ok (.cv i) env) := by unfold varE; rw [h]; rfl
theorem ev_two (h1 : fa env = some (.ok a env1)) (h2 : fb env1 = some (.ok b env2)) (h3 : pk a env2 = some x) (h4 : pk b env2 = some y) (h5 : f x y = some z) : two (op2 f) fa fb env = some (.ok z env2) := by
  unfold two; rw [h1, bindE_ok, h2, bindE_ok]; unfold op2; rw [h3, h4]; show (f x y).map _ = _; rw [h5]; rfl
theorem ev_one {g : D → Option RV} (h1 : fa env = some (.ok a env1)) (h3 : pk a env1 = some x) (h5 : g x = some z) : oneE g fa env = some (.ok z env1) := by
  unfold oneE; rw [h1, bindE_ok, h3, Option.bind_some, h5]; rfl
theorem pk_d : pk (.d x) env = some x := rfl
theorem pk_own : pk (.own (.lst xs)) env = some (.lst xs) := rfl
theorem pk_cv {t : Bool} (h : env[i]? = some (.own t (.lst xs))) : pk (.cv i) env = some (.lst xs) := by unfold pk; dsimp only; rw [h]; rfl
theorem ev_nil : nilA env = some (.ok [] env) := rfl
theorem ev_cons (h1 : fa env = some (.ok a env1)) (h2 : fs env1 = some (.ok as env2)) : consA fa fs env = some (.ok (a :: as) env2) := by
  unfold consA; rw [h1, bindEA_ok, h2]; rfl
theorem pks_nil : pks [] env = some [] := rfl
theorem pks_cons (h1 : pk a env = some x) (h2 : pks as env = some xs) : pks (a :: as) env = some (x :: xs) := by
  unfold pks; rw [h1, Option.bind_some, h2]; rfl
theorem ev_callE {g : List D → Option RV} (h1 : fs env = some (.ok as env1)) (h2 : pks as env1 = some xs) (h3 : g xs = some z) : callE g fs env = some (.ok z env1) := by
  unfold callE; rw [h1, bindA_ok, h2, Option.bind_some, h3]; rfl
theorem ev_isi {n : String} (h1 : fa env = some (.ok a env1)) (h2 : pk a env1 = some x) (o : okI x = true := by rfl) : isiE n fa env = some (.ok (.d (.bl (isiD n x))) env1) := by
  unfold isiE; rw [h1, bindE_ok, h2, Option.bind_some]; exact if_pos o
theorem frz_d : frz (.d x) env = some (x, env) := rfl
theorem frz_own : frz (.own (.lst xs)) env = some (.lst xs, env) := rfl
theorem frz_cv (h : env[i]? = some (.own false (.lst xs))) (h2 : env.set i (.d (.lst xs)) = env1) : frz (.cv i) env = some (.lst xs, env1) := by subst h2; unfold frz; dsimp only; rw [h]; rfl
theorem frzs_nil : frzs [] env = some ([], env) := rfl
theorem frzs_cons (h1 : frz a env = some (x, env1)) (h2 : frzs as env1 = some (xs, env2)) : frzs (a :: as) env = some (x :: xs, env2) := by
  unfold frzs; rw [h1, Option.bind_some, h2]; rfl
theorem ev_tup (h1 : fs env = some (.ok as env1)) (h2 : frzs as env1 = some (xs, env2)) (h3 : xs.length ≤ 100000) : tupE fs env = some (.ok (.d (.tup xs)) env2) := by
  unfold tupE; rw [h1, bindA_ok, h2, Option.bind_some]; exact if_pos h3
theorem ev_lst (h1 : fs env = some (.ok as env1)) (h2 : frzs as env1 = some (xs, env2)) (h3 : xs.length ≤ 100000) : lstE fs env = some (.ok (.own (.lst xs)) env2) := by
  unfold lstE; rw [h1, bindA_ok, h2, Option.bind_some]; exact if_pos h3
/-- a call of a def -/
theorem ev_callD {m : List SV → Option FR} {ds : List D} {o vs : List SV} {a' : RV} (h1 : fs env = some (.ok as env1)) (h2 : frzs as env1 = some (xs, env2)) (he : (xs ++ ds).map SV.d = vs) (h3 : m vs = some (.ok a' o)) (h4 : retV a' = some b) : callD m ds fs env = some (.ok b env2) := by
  subst he
  unfold callD; rw [h1, bindA_ok, h2, Option.bind_some, h3]; show (retV a').map _ = _; rw [h4]; rfl
theorem ret_d : retV (.d x) = some (.d x) := rfl
theorem ret_own {c : C} : retV (.own c) = some (.own c) := rfl
theorem mapd_nn : (([] : List D) ++ []).map SV.d = [] := rfl
theorem mapd_c {ds : List D} {vs : List SV} (h : (xs ++ ds).map SV.d = vs) : ((x :: xs) ++ ds).map SV.d = .d x :: vs := by subst h; rfl
theorem mapd_d {ds : List D} {vs : List SV} (h : (([] : List D) ++ ds).map SV.d = vs) : (([] : List D) ++ (x :: ds)).map SV.d = .d x :: vs := by subst h; rfl
theorem tru_bl {t : Bool} : tru (.d (.bl t)) env = some t := rfl
theorem ev_not {t : Bool} (h1 : fa env = some (.ok a env1)) (h2 : tru a env1 = some t) : notE fa env = some (.ok (.d (.bl (!t))) env1) := by
  unfold notE; rw [h1, bindE_ok, h2]; rfl
theorem ev_andT (h1 : fa env = some (.ok a env1)) (h2 : tru a env1 = some true) (h3 : fb env1 = some r) : andE fa fb env = some r := by
  unfold andE; rw [h1, bindE_ok, h2]; exact h3
theorem ev_andF (h1 : fa env = some (.ok a env1)) (h2 : tru a env1 = some false) : andE fa fb env = some (.ok a env1) := by
  unfold andE; rw [h1, bindE_ok, h2]
theorem ev_orF (h1 : fa env = some (.ok a env1)) (h2 : tru a env1 = some false) (h3 : fb env1 = some r) : orE fa fb env = some r := by
  unfold orE; rw [h1, bindE_ok, h2]; exact h3
theorem ev_orT (h1 : fa env = some (.ok a env1)) (h2 : tru a env1 = some true) : orE fa fb env = some (.ok a env1) := by
  unfold orE; rw [h1, bindE_ok, h2]
/-- and, or of two truth values -/
theorem ev_andB {t u : Bool} (h1 : fa env = some (.ok (.d (.bl t)) env)) (h3 : fb env = some (.ok (.d (.bl u)) env)) : andE fa fb env = some (.ok (.d (.bl (t && u))) env) := by
  cases t with
  | true => exact ev_andT h1 rfl h3
  | false => exact ev_andF h1 rfl
theorem ev_orB {t u : Bool} (h1 : fa env = some (.ok (.d (.bl t)) env)) (h3 : fb env = some (.ok (.d (.bl u)) env)) : orE fa fb env = some (.ok (.d (.bl (t || u))) env) := by
  cases t with
  | true => exact ev_orT h1 rfl
  | false => exact ev_orF h1 rfl h3
theorem ev_met {T : String} {g : D → List D → Option RV} (h1 : fo env = some (.ok a env1)) (h2 : pk a env1 = some x) (h3 : tyD x = T) (h4 : fs env1 = some (.ok as env2)) (h5 : pk a env2 = some y) (h6 : pks as env2 = some xs) (h7 : g y xs = some z) : metE T g fo fs env = some (.ok z env2) := by
  unfold metE; rw [h1, bindE_ok, h2, Option.bind_some, if_pos h3, h4, bindA_ok, h5, Option.bind_some, h6, Option.bind_some, h7]; rfl
theorem ev_mut {g : List D → List D → Option (D × List D)} {t t2 : Bool} {ys0 : C} {ys2 zs : List D} {env4 : Sl} (h1 : fo env = some (.ok (.cv i) env1)) (h2 : env1[i]? = some (.own t ys0)) (h2' : ys0 = .lst ys) (h4 : fs env1 = some (.ok as env2)) (h5 : frzs as env2 = some (xs, env3)) (h6 : env3[i]? = some (.own t2 (.lst ys2))) (h7 : g ys2 xs = some (x, zs)) (h8 : env3.set i (.own t2 (.lst zs)) = env4) :
    mutE g fo fs env = some (.ok (.d x) env4) := by
  subst h2' h8
  unfold mutE; rw [h1, bindE_ok]; dsimp only; rw [h2]; show (some (t, ys)).bind _ = _; rw [Option.bind_some, h4, bindA_ok, h5, Option.bind_some]; dsimp only; rw [h6]; show (some (t2, ys2)).bind _ = _; rw [Option.bind_some]; dsimp only; rw [h7]; rfl
end
section
variable {env env1 env2 : Sl} {f g : SS} {fe fc : SE} {a : RV} {x : D} {i : Nat} {o : Out} {tg : Tg} {body : SS} {fi : SI} {xs ys : List D} {fa : SA} {as : List RV}
theorem ev_seq2 (h : f env = some (.nx env1)) (h2 : g env1 = some o) : seqS f g env = some o := by unfold seqS; rw [h]; exact h2
theorem ev_iteT (h : fc env = some (.ok a env1)) (ht : tru a env1 = some true) (h2 : f env1 = some o) : iteS fc f g env = some o := by
  unfold iteS bindS; rw [h]; dsimp only; rw [ht]; exact h2
theorem ev_iteF (h : fc env = some (.ok a env1)) (ht : tru a env1 = some false) (h2 : g env1 = some o) : iteS fc f g env = some o := by
  unfold iteS bindS; rw [h]; dsimp only; rw [ht]; exact h2
theorem ev_ret (h : fe env = some (.ok a env1)) : retS fe env = some (.rt a env1) := by unfold retS bindS; rw [h]
theorem ev_skip : skipS env = some (.nx env) := rfl
theorem ev_expr (h : fe env = some (.ok a env1)) : exprS fe env = some (.nx env1) := by unfold exprS bindS; rw [h]
theorem ev_asg (h : fe env = some (.ok a env1)) (h2 : storeR i a env1 = some env2) : asgS i fe env = some (.nx env2) := by unfold asgS bindS; rw [h]; dsimp only; rw [h2]; rfl
theorem st_d (h : freeSlot env[i]? = true) (h2 : env.set i (.d x) = env2) : storeR i (.d x) env = some env2 := by subst h2; unfold storeR setSlot; dsimp only; rw [if_pos h]
theorem st_own {c : C} (h : freeSlot env[i]? = true) (h2 : env.set i (.own false c) = env2) : storeR i (.own c) env = some env2 := by subst h2; unfold storeR setSlot; dsimp only; rw [if_pos h]
theorem ty_str {x : List Nat} : tyD (.str x) = "str" := rfl
theorem ty_lst {x : List D} : tyD (.lst x) = "list" := rfl
theorem st_cv {j : Nat} (h : frz (.cv j) env = some (x, env1)) (h2 : freeSlot env1[i]? = true) (h3 : env1.set i (.d x) = env2) : storeR i (.cv j) env = some env2 := by subst h3; unfold storeR; dsimp only; rw [h, Option.bind_some]; unfold setSlot; rw [if_pos h2]
theorem fs_ok {s : Option SV} (h : freeSlot s = true) : freeSlot s = true := h
theorem gE {env : Sl} {i : Nat} {s : SV} (h : env[i]? = some s) : env[i]? = some s := h
theorem lst_eq {ys : List D} : C.lst ys = C.lst ys := rfl
theorem set_z {s t : SV} {l : Sl} : (s :: l).set 0 t = t :: l := rfl
theorem set_s {s t : SV} {l l' : Sl} {n : Nat} (h : l.set n t = l') : (s :: l).set (n + 1) t = s :: l' := by subst h; rfl
theorem ev_for (h : fi env = some (.ok xs env1)) : forS fi tg body env = loopD tg body xs env1 := by unfold forS; rw [h]
theorem ev_src (h : fe env = some (.ok a env1)) (h2 : frz a env1 = some (x, env2)) (h3 : itemsD x = some xs) : srcE fe env = some (.ok xs env2) := by
  unfold srcE; rw [h]; show (frz a env1).bind _ = _; rw [h2, Option.bind_some, h3]; rfl
theorem ev_args {g : List D → Option (List D)} (h : fa env = some (.ok as env1)) (h2 : pks as env1 = some xs) (h3 : g xs = some ys) : argsI g fa env = some (.ok ys env1) := by
  unfold argsI bindAI
  rw [h]
  dsimp only
  rw [h2, Option.bind_some, h3]
  rfl
end
theorem modI_ok {i j : Int} (h : 0 < j) : modI i j = some (i % j) := by unfold modI; rw [if_pos (okP_iff.mpr h)]
theorem fdivI_ok {i j : Int} (h : 0 < j) (h2 : j < 1073741824) : fdivI i j = some (i / j) := by unfold fdivI; rw [if_pos (okP_iff.mpr ⟨h, h2⟩)]
theorem mulI_l {i j : Int} (h : big64 i = true) : mulI i j = some (i * j) := by unfold mulI; rw [h]; rfl
theorem mulI_r {i j : Int} (h : big64 j = true) : mulI i j = some (i * j) := by unfold mulI; rw [h, Bool.or_true]; rfl
theorem powI_18 : powI 10 18 = some 1000000000000000000 := by
  unfold powI
  rw [if_pos (okP_iff.mpr ⟨⟨by decide, by decide⟩, by decide⟩)]
  rfl
theorem mod_ok {i j : Int} (h : 0 < j) : modD (.int i) (.int j) = some (.d (.int (i % j))) := by show (modI i j).map _ = _; rw [modI_ok h]; rfl
theorem fdiv_ok {i j : Int} (h : 0 < j) (h2 : j < 1073741824) : fdivD (.int i) (.int j) = some (.d (.int (i / j))) := by show (fdivI i j).map _ = _; rw [fdivI_ok h h2]; rfl
theorem mul_l {i j : Int} (h : big64 i = true) : mulD (.int i) (.int j) = some (.d (.int (i * j))) := by show (mulI i j).map _ = _; rw [mulI_l h]; rfl
theorem mul_r {i j : Int} (h : big64 j = true) : mulD (.int i) (.int j) = some (.d (.int (i * j))) := by show (mulI i j).map _ = _; rw [mulI_r h]; rfl
theorem pow_18 : powD (.int 10) (.int 18) = some (.d (.int 1000000000000000000)) := by show (powI 10 18).map _ = _; rw [powI_18]; rfl
theorem len_str {x : List Nat} (h : x.length ≤ sizeLine) : lenD [.str x] = some (.d (.int x.length)) := if_pos h
theorem len_lst {x : List D} : lenD [.lst x] = some (.d (.int x.length)) := rfl
theorem len_tup {x : List D} : lenD [.tup x] = some (.d (.int x.length)) := rfl
theorem get_str {x : List Nat} {i : Int} {c : Nat} (h : x.length ≤ sizeLine) (h2 : L2.atI x i = some c) : getD (.str x) (.int i) = some (.d (.str [c])) := by
  show (if x.length ≤ sizeLine then _ else none) = _; rw [if_pos h, h2]; rfl
theorem get_lst {x : List D} {i : Int} {c : D} (h2 : L2.atI x i = some c) : getD (.lst x) (.int i) = some (.d c) := by show (L2.atI x i).map _ = _; rw [h2]; rfl
theorem get_tup {x : List D} {i : Int} {c : D} (h2 : L2.atI x i = some c) : getD (.tup x) (.int i) = some (.d c) := by show (L2.atI x i).map _ = _; rw [h2]; rfl
theorem app_ok {xs : List D} {x : D} (h : xs.length < 100000) : appU xs [x] = some (.non, xs ++ [x]) := if_pos h
theorem add_str {x y : List Nat} (h : x.length + y.length ≤ sizeLine) : addD (.str x) (.str y) = some (.d (.str (x ++ y))) := if_pos h
theorem cut_str {x : List Nat} {lo hi : Option Int} (h : x.length ≤ sizeLine) : cutD (.str x) lo hi = some (.d (.str (cutL x lo hi))) := if_pos h
theorem rng1_nat {n : Nat} (h : n ≤ 1000000) : rng1 [.int n] = some ((List.range n).map fun i => .int (i : Nat)) := by
  have q : okP (-(2 ^ 62) ≤ (n : Int) ∧ (n : Int) < 2 ^ 62) = true := okP_iff.mpr (by omega)
  unfold rng1
  dsimp only
  rw [if_pos q]
  rfl
section
variable {i j : Int} {a b : Bool} {x y : List Nat} {c : Nat} {ds es : List D}
theorem eq_int : eqD (.int i) (.int j) = some (.d (.bl (i == j))) := rfl
theorem ne_int : neD (.int i) (.int j) = some (.d (.bl (!(i == j)))) := rfl
theorem eq_str : eqD (.str x) (.str y) = some (.d (.bl (x == y))) := rfl
theorem ne_str : neD (.str x) (.str y) = some (.d (.bl (!(x == y)))) := rfl
theorem eq_bl : eqD (.bl a) (.bl b) = some (.d (.bl (a == b))) := rfl
theorem ne_bl : neD (.bl a) (.bl b) = some (.d (.bl (!(a == b)))) := rfl
theorem lt_int' : ltG (.int i) (.int j) = some (.d (.bl (decide (i < j)))) := rfl
theorem lt_str' : ltG (.str x) (.str y) = some (.d (.bl (decide (x < y)))) := rfl
theorem le_int' : leD (.int i) (.int j) = some (.d (.bl (decide (i ≤ j)))) := rfl
theorem gt_int' : gtD (.int i) (.int j) = some (.d (.bl (decide (j < i)))) := rfl
theorem ge_int' : geD (.int i) (.int j) = some (.d (.bl (decide (j ≤ i)))) := rfl
theorem add_int' : addD (.int i) (.int j) = some (.d (.int (i + j))) := rfl
theorem sub_int' : subD (.int i) (.int j) = some (.d (.int (i - j))) := rfl
theorem neg_int' : negD (.int i) = some (.d (.int (-i))) := rfl
theorem ord_str : ordC [.str [c]] = some (.d (.int c)) := rfl
theorem int_int : intC [.int i] = some (.d (.int i)) := rfl
theorem int_bl : intC [.bl a] = some (.d (.int (b2i a))) := rfl
theorem list_lst : listC [.lst ds] = some (.own (.lst ds)) := rfl
theorem list_tup : listC [.tup ds] = some (.own (.lst ds)) := rfl
theorem tup_lst : tupleC [.lst ds] = some (.d (.tup ds)) := rfl
theorem tup_tup : tupleC [.tup ds] = some (.d (.tup ds)) := rfl
theorem it_lst : itemsD (.lst ds) = some ds := rfl
theorem it_tup : itemsD (.tup ds) = some ds := rfl
theorem it_str : itemsD (.str x) = some (x.map fun c => .str [c]) := rfl
end
/-- a def's meaning, from its body's -/
theorem defM_rt {np n : Nat} {body : SS} {as : List SV} {a : RV} {b : RV} (e0 : Sl) {env : Sl} {o : List SV} (hl : as.length = np) (he : as ++ List.replicate n .un = e0) (h : body e0 = some (.rt a env)) (h2 : resV a env = some b) (h3 : backs as env = some o) : defM np n body as = some (.ok b o) := by
  unfold defM runF; rw [if_pos hl, he, h]; dsimp only; rw [h2, Option.bind_some, h3]; rfl
end
end Dw
namespace Dw
noncomputable section
open PySem PySem.Spec PyProof.Rows L2
variable [Glo] [Tabs]
def textM (g : List Nat → List Nat → Option RV) : D → List D → Option RV
  | .str a, [.str b] => g a b
  | _, _ => none
theorem snd_textM {K : PySem.W.Frag} {g : List Nat → List Nat → Option RV} {r : V → List V → Hp → VK → Prop}
    (h : ∀ {W : WX} {F : Hp} {R : Fm} {σ : L2.St} {H : Hp} {env : Sl} {Q : VK} {a b : List Nat} {z : RV}, Sta K F R σ H env → g a b = some z → PostE K W F R σ (.ok z env) Q → r (.str (mk a)) [.str (mk b)] H Q) : SndM K (textM g) r := by
  intro W F R σ H env Q x v xs vs z S hx hv e p
  cases x with
  | str a =>
    cases hx
    match xs, hv, e with
    | [.str b], hv, e =>
      obtain ⟨w, rfl, hw⟩ := vw1 hv
      cases hw
      exact h S e p
  | _ => cases e
def cutTop (a b : List Nat) : List Nat := a.drop (a.takeWhile b.contains).length
theorem conts (b : List Nat) : (mk b).cps.contains = b.contains := by
  funext c
  simp [mk]
theorem lstrip_mk (a b : List Nat) : Txt.lstripChars (mk a) (mk b) = mk (cutTop a b) := by
  unfold Txt.lstripChars
  rw [stripBy_eq, conts]
  unfold cutTop Builtin.Str.strSub stripLo stripHi
  simp [mk, Str.length]
  exact List.take_of_length_le (by rw [List.length_drop]; omega)
def lstripL (a b : List Nat) : Option RV := if a.length ≤ sizeLine then some (.d (.str (cutTop a b))) else none
def rStripS (f : Str → Str → Str) : V → List V → Hp → VK → Prop := fun x xs H Q => ∃ a b, x = .str a ∧ xs = [.str b] ∧ a.length ≤ sizeLine ∧ Q (.str (f a b)) H
theorem snd_lstrip {K : PySem.W.Frag} : SndM K (textM lstripL) (rStripS Txt.lstripChars) := snd_textM fun {W F R σ H env Q a b z} S e p => by
  obtain ⟨c, rfl⟩ := some_if e
  refine ⟨_, _, rfl, rfl, by rw [mk_len]; exact c, ?_⟩
  rw [lstrip_mk]
  exact post_d S p (.str _)
end
end Dw
namespace Dw
noncomputable section
open PySem PySem.Spec PyProof.Rows L2
variable [Glo] [Tabs]
def ItEs (x : Str) : It :=
  ⟨fun i _ => i < x.cps.size, fun i H v H' => ∃ T c, v = .ref T ∧ H T = none ∧ H' = upd H T (.tup [.int (i : Nat), .str ⟨#[c]⟩]) ∧ x.cps[i]? = some c, fun i _ => x.cps.size ≤ i⟩
theorem draws_str {P : Program} {w : World} {A : Around} (hh : A.handled = none) (it : Addr) (x : Str) (t : Tok) : Draws P w A it [it] x.cps.size (fun i v => ∃ c u, x.cps[i]? = some c ∧ v = .str ⟨#[c]⟩ u) (fun i h => h.IsStrIter it (strIterType x) x t i) := by
  unfold strIterType
  split
  · exact Draws.strAscii hh it x t
  · exact Draws.strWide hh it x t
theorem turn_enumS {P : Program} {w : World} {K : PySem.W.Frag} {elts : List Expr} {kk : Nat} {tpos : Pos} (x : Str) (t : Tok) (e it : Addr) :
    Turn P w K (.Tuple elts kk tpos) (ItEs x) [e, it] e (fun i h => (∃ old, IsEnum h e it i old) ∧ h.IsStrIter it (strIterType x) x t i ∧ e ≠ it ∧ i ≤ x.cps.size) where
  mem := by simp
  obj := fun i h st b hb => by
    obtain ⟨⟨old, he⟩, ⟨o, ho, hc, hd⟩, _⟩ := st
    have e' : b = e ∨ b = it := by simpa using hb
    rcases e' with z | z
    · rw [z]; exact ⟨_, he, fun v q => nomatch q⟩
    · rw [z]; exact ⟨o, ho, fun v q => by rw [hd] at q; cases q⟩
  keep := fun i h h' st k => by
    obtain ⟨⟨old, he⟩, ⟨o, ho, r⟩, hne, hi⟩ := st
    exact ⟨⟨old, k e (by simp) _ he⟩, ⟨o, k it (by simp) _ ho, r⟩, hne, hi⟩
  item := by
    intro X hP hw hK hc i pins s σ H E I hf st hg
    subst hP hw hK
    obtain ⟨⟨old, he⟩, hit, hne, hi⟩ := st
    have hlt : i < x.cps.size := hg
    have hel : e < s.heap.objs.size := Heap.lt_size he
    have hil : it < s.heap.objs.size := by obtain ⟨_, q, _⟩ := hit; exact Heap.lt_size q
    have hh : X.A.in1.handled = none := I.ok.hd hc
    refine wpAny_pyNext_enum_itemD (draws_str (A := X.A.in1) hh it x t) he hit hlt hne (by simpa using hne) fun u h' tk hu ho hit' hT hsz hk => ?_
    obtain ⟨c, tu, hc1, rfl⟩ := hu
    refine ⟨_, rfl, wpAny_letOwnedTupleGo_enum (s := { s with heap := h', toks := tk + 1 }) ho fun h'' he' sb => ?_⟩
    have hT2 : h''.get? s.heap.objs.size = some { cls := .type "tuple", data := .seq #[.int i tk, .str ⟨#[c]⟩ tu] } := (sb.2 _ (Nat.ne_of_gt hel)).trans hT
    have new : ObjOk X.prog X.w (upd H s.heap.objs.size (.tup [.int (i : Nat), .str ⟨#[c]⟩])) h'' s.heap.objs.size (.tup [.int (i : Nat), .str ⟨#[c]⟩]) :=
      ⟨by show 2 ≤ sizeLine; decide, [.int i tk, .str ⟨#[c]⟩ tu], .cons ⟨_, rfl⟩ (.cons ⟨_, rfl⟩ .nil), ⟨_, hT2, rfl, _, rfl⟩⟩
    have I1 : Inv X pins σ (upd H s.heap.objs.size (.tup [.int (i : Nat), .str ⟨#[c]⟩])) { s with heap := h'', toks := tk + 1 } :=
      I.turnedNew (ch := [e, it]) (fun b ob hb q => (sb.2 b (fun z => hb (by simp [z]))).trans (hk b ob (fun z => hb (by simp [z])) (fun z => hb (by simp [z])) q)) hf (Nat.le_refl _) new
    refine ⟨.ref s.heap.objs.size, _, I1, rfl, ⟨_, c, rfl, I.hok.fresh (Nat.le_refl _), rfl, hc1⟩, ⟨⟨.str ⟨#[c]⟩ tu, ?_⟩, ?_, hne, hlt⟩, fun b hb => ?_⟩
    · have e1 : ((i + 1 : Nat) : Int) = (i : Int) + 1 := by omega
      rw [e1]; exact he'
    · obtain ⟨o, ho2, r⟩ := hit'
      exact ⟨o, (sb.2 it (Ne.symm hne)).trans ho2, r⟩
    · have hb' : b < s.heap.objs.size := by
        have e' : b = e ∨ b = it := by simpa using hb
        rcases e' with z | z
        · rw [z]; exact hel
        · rw [z]; exact hil
      rw [upd_ne (Nat.ne_of_lt hb')]
      exact (hf b hb).1
  done := by
    intro X hP hw hK hc i pins s σ H E I hf st hg
    subst hP hw hK
    obtain ⟨⟨old, he⟩, hit, hne, hi⟩ := st
    have hle : x.cps.size ≤ i := hg
    have ei : i = x.cps.size := by omega
    subst ei
    obtain ⟨f0, f1, f2, f3, f4, f5⟩ := hf it (by simp)
    have hh : X.A.in1.handled = none := I.ok.hd hc
    exact wpAny_pyNext_enum_endD (draws_str (A := X.A.in1) hh it x t) he hit fun h' eb => ⟨rfl, I.turned (t' := s.toks) (fun b o hb q => eb b o hb q) f0 f1 f3 f4 f5⟩
  self := fun A i s Q E st h => let ⟨⟨_, he⟩, _⟩ := st; wpAny_pyIter_enum he h
def iEnumS (te : TA) : TI := fun σ H R => te σ H fun vs H1 => ∃ x, vs = [.str x] ∧ R (ItEs x) H1
theorem pi_enumS {X : Cx} {e : Expr} {ta : TA} {p pos tpos : Pos} {elts : List Expr} {kk : Nat} (hg : Gl X "enumerate") (hm : X.mg "enumerate" = none) (ha : PA X [e] ta) (hs : starEach [e] X.env = [(false, eval e X.env)] := by rfl) :
    PI X (.Tuple elts kk tpos) (.Call (.Name "enumerate" p) [e] [] pos) (iEnumS ta) := by
  refine ⟨fun pins s σ H R I h => ?_⟩
  refine Call_ (ld_blt I hg hm boot_enumerate (PyProof.Rows.callWith_type1 (thn (ha.run pos pins s σ H _ I h) fun us s1 ⟨vs, H1, I1, r1, q1⟩ => ?_) hs rfl))
  obtain ⟨x, ex, q⟩ := q1
  subst ex
  cases r1 with
  | cons r rr =>
    cases rr
    obtain ⟨t, rfl⟩ := r
    refine call_enumerate_str fun h' he hit hsz hk => wpAny_pyIter_enum he ?_
    have I2 : Inv X pins σ H1 { s1 with heap := h' } := I1.kept (t' := s1.toks) hk
    refine ⟨s1.heap.objs.size + 1, [s1.heap.objs.size + 1, s1.heap.objs.size], _, _, H1, rfl, I2, turn_enumS x t (s1.heap.objs.size + 1) s1.heap.objs.size, ⟨⟨.none, he⟩, hit, Nat.succ_ne_self _, Nat.zero_le _⟩, fun b hb => ?_, q⟩
    have e' : b = s1.heap.objs.size + 1 ∨ b = s1.heap.objs.size := by simpa using hb
    have hle : s1.heap.objs.size ≤ b := by
      rcases e' with z | z
      · rw [z]; exact Nat.le_add_right _ _
      · rw [z]; exact Nat.le_refl _
    exact I1.fpOk hle (I1.hok.fresh hle)
theorem _root_.L2.PI.or2 {X : Cx} {tg e : Expr} {t u : TI} (h : PI X tg e t) (h' : PI X tg e u) : PI X tg e (fun σ H R => t σ H R ∨ u σ H R) := ⟨fun pins s σ H R I q => by
  rcases q with q | q
  · exact h.run pins s σ H R I q
  · exact h'.run pins s σ H R I q⟩
def enumL : Nat → List D → List D
  | _, [] => []
  | i, x :: xs => .tup [.int (i : Nat), x] :: enumL (i + 1) xs
theorem enumL_len : ∀ (i : Nat) (xs : List D), (enumL i xs).length = xs.length
  | _, [] => rfl
  | i, x :: xs => by rw [enumL, List.length_cons, List.length_cons, enumL_len]
theorem enumL_get : ∀ (i k : Nat) (xs : List D) (x : D), (enumL i xs)[k]? = some x → ∃ y, xs[k]? = some y ∧ x = .tup [.int ((i + k : Nat) : Int), y]
  | i, k, [], x, h => by simp [enumL] at h
  | i, 0, y :: xs, x, h => by
    simp [enumL] at h
    exact ⟨y, rfl, h.symm⟩
  | i, k + 1, y :: xs, x, h => by
    obtain ⟨z, h1, h2⟩ := enumL_get (i + 1) k xs x (by simpa [enumL] using h)
    exact ⟨z, by simpa using h1, by rw [h2, show i + 1 + k = i + (k + 1) by omega]⟩
def enumE (fa : SA) : SI := fun env => bindAI (fa env) fun as env1 => match as with
  | [a] => (frz a env1).bind fun p => (match p.1 with | .lst xs => some (enumL 0 xs) | .str x => some (enumL 0 (x.map fun c => .str [c])) | _ => none).map fun ys => .ok ys p.2
  | _ => none
section
variable {K : PySem.W.Frag} {W : WX} {F F' : Hp} {R R' : Fm} {σ : L2.St} {H H' : Hp} {env env' : Sl}
theorem wk_enumS {x : List Nat} : Wk K F (ItEs (mk x)) (enumL 0 (x.map fun c => .str [c])) := by
  have hs : (mk x).cps.size = x.length := mk_len x
  refine ⟨fun i H hi e => ?_, fun H e => ?_, fun {F' R σ env} i H v H' y hx e S yl => ?_⟩
  · rw [enumL_len, List.length_map] at hi
    show i < (mk x).cps.size
    rw [hs]; exact hi
  · show (mk x).cps.size ≤ _
    rw [enumL_len, List.length_map, hs]
    exact Nat.le_refl _
  · obtain ⟨T, c, rfl, hT, rfl, hc⟩ := yl
    obtain ⟨z, h1, rfl⟩ := enumL_get 0 i _ _ hx
    have e4 : x[i]? = some c := by simpa [mk] using hc
    rw [List.getElem?_map, e4] at h1
    cases h1
    refine ⟨upd F' T (.tup [.int (i : Nat), .str ⟨#[c]⟩]), Ex.new (S.freeF hT), S.freshF hT, .tup (SqT.of upd_same) ?_, Ex.new hT⟩
    rw [Nat.zero_add]
    exact .cons (.int _) (.cons (.str [c]) .nil)
theorem wk_enumL {a : Addr} {vs : List V} {xs : List D} (s : SqL K F a vs) (r : RelAll K F vs xs) : Wk K F (Ite K a) (enumL 0 xs) := by
  refine ⟨fun i H hi e => ?_, fun H e => ?_, fun {F' R σ env} i H v H' y hx e S yl => ?_⟩
  · rw [enumL_len] at hi
    obtain ⟨v, hv, _⟩ := r.getD (List.getElem?_eq_getElem hi)
    exact ⟨vs, v, ex_l e s, hv⟩
  · exact ⟨vs, ex_l e s, by rw [enumL_len, r.len]; exact Nat.le_refl _⟩
  · obtain ⟨T, u, rfl, hT, rfl, hc⟩ := yl
    obtain ⟨z, h1, rfl⟩ := enumL_get 0 i _ _ hx
    have hu := hc vs (ex_l (e.trans S.sub) s)
    obtain ⟨d, h2, rv⟩ := r.get hu
    rw [h1] at h2
    cases h2
    have eF : Ex F' (upd F' T (.tup [.int (i : Nat), u])) := Ex.new (S.freeF hT)
    refine ⟨upd F' T (.tup [.int (i : Nat), u]), eF, S.freshF hT, .tup (SqT.of upd_same) ?_, Ex.new hT⟩
    rw [Nat.zero_add]
    exact .cons (.int _) (.cons ((rv.up e).up eF) .nil)
theorem dI_enum {fa : SA} {Q : It → Hp → Prop} (h : dI K W (enumE fa) σ H Q) : iEnum K (dA K W fa) σ H Q ∨ iEnumS (dA K W fa) σ H Q := by
  obtain ⟨env, F, R, r, S, e, p⟩ := h
  rcases bindAI_inv e with ⟨as, env1, h1, h2⟩ | ⟨x, env1, h1, rfl⟩
  · match as, h1, h2 with
    | [a], h1, h2 =>
      dsimp only at h2
      rw [Option.bind_eq_some_iff] at h2
      obtain ⟨⟨x, env2⟩, h3, h4⟩ := h2
      rw [Option.map_eq_some_iff] at h4
      obtain ⟨ys, h5, rfl⟩ := h4
      have key : ∀ {Q1 : List V → Hp → Prop}, (∀ v F2 H1, Ex F F2 → Sta K F2 R σ H1 env2 → Rel K F2 v x → Q1 [v] H1) → dA K W fa σ H Q1 := fun {Q1} k =>
        ⟨env, F, R, _, S, h1, fun vs F1 H1 R1 e1 eR S1 hv => by
          match vs, hv with
          | [v], hv =>
            obtain ⟨F2, e2, S2, r2⟩ := frz_ok (S1.unhold eR) (unheld (Ex.refl _) eR S1 hv.1) h3
            exact k v F2 H1 (e1.trans e2) S2 r2
          | [], hv => exact hv.elim
          | _ :: _ :: _, hv => exact hv.2.2.elim⟩
      cases x with
      | lst xs =>
        cases h5
        exact .inl (key fun v F2 H1 e2 S2 r2 => by
          cases r2 with
          | lst s rr => exact ⟨_, _, rfl, ex_l S2.sub s, p _ F2 H1 e2 S2 (wk_enumL s rr)⟩)
      | str y =>
        cases h5
        exact .inr (key fun v F2 H1 e2 S2 r2 => by
          cases r2
          exact ⟨mk y, rfl, p _ F2 H1 e2 S2 wk_enumS⟩)
      | _ => cases h5
  · exact .inl ⟨env, F, R, _, S, h1, p⟩
end
section
variable {X : Cx} {W : WX} {e : Expr} {fa : SA} {p pos tpos : Pos} {elts : List Expr} {kk : Nat}
theorem pi_denum (hm : X.mg "enumerate" = none) (ha : PA X [e] (dA X.K W fa)) (hg : Gl X "enumerate" := by rfl) (hs : starEach [e] X.env = [(false, eval e X.env)] := by rfl) : PI X (.Tuple elts kk tpos) (.Call (.Name "enumerate" p) [e] [] pos) (dI X.K W (enumE fa)) :=
  ((pi_enum hg hm ha hs).or2 (pi_enumS hg hm ha hs)).wk fun _ _ _ q => dI_enum q
end
end
end Dw
namespace Dw
noncomputable section
open PySem PySem.Spec PyProof.Rows L2
variable [Glo] [Tabs]
theorem cr_list {X : Cx} : CallR X (.type "list") (rListC X.K) := call_list_of
theorem cr_tuple {X : Cx} : CallR X (.type "tuple") (rTupleC X.K) := call_tuple_of
def rgD (g : List D → RV) (fa : SE) : SE := fun env => bindE (fa env) fun a env1 => match pk a env1 with
  | some (.int n) => if okP (-(2 ^ 62) ≤ n ∧ n < 2 ^ 62 ∧ n.toNat ≤ 100000) then some (.ok (g ((List.range n.toNat).map fun i => .int (i : Nat))) env1) else none
  | _ => none
def tupRV (xs : List D) : RV := .d (.tup xs)
theorem rgV_rel {K : PySem.W.Frag} {F : Hp} (n : Int) : RelAll K F (rgV 0 n) ((List.range n.toNat).map fun i => .int (i : Nat)) := by
  unfold rgV
  rw [Int.sub_zero]
  have h := RelAll.ints (K := K) (F := F) ((List.range n.toNat).map fun i : Nat => (i : Int))
  rw [List.map_map, List.map_map] at h
  have e : (fun i : Nat => V.int (0 + (i : Int))) = V.int ∘ fun i : Nat => (i : Int) := by funext i; simp
  rw [e]
  exact h
section
variable {K : PySem.W.Frag} {W : WX} {σ : L2.St} {H : Hp} {Q : VK}
theorem dE_rg {g : List D → RV} {fa : SE} {R0 : Int → Hp → VK → Prop} (h : dE K W (rgD g fa) σ H Q)
    (hk : ∀ {F R env n H1}, Sta K F R σ H1 env → RgOk 0 n → PostE K W F R σ (.ok (g ((List.range n.toNat).map fun i => .int (i : Nat))) env) Q → R0 n H1 Q) : dE K W fa σ H fun x H1 => ∃ n, x = .int n ∧ R0 n H1 Q := by
  refine dE_one (op := fun a env1 => match pk a env1 with | some (.int n) => if okP (-(2 ^ 62) ≤ n ∧ n < 2 ^ 62 ∧ n.toNat ≤ 100000) then some (.ok (g ((List.range n.toNat).map fun i => .int (i : Nat))) env1) else none | _ => none) h fun a env F R v H1 S rv q => ?_
  obtain ⟨r, e, p⟩ := q
  dsimp only at e
  cases hx : pk a env with
  | none => rw [hx] at e; cases e
  | some x =>
    rw [hx] at e
    cases x with
    | int n =>
      cases (show Rel K F v (.int n) from pk_vw S rv hx)
      obtain ⟨c, rfl⟩ := some_if e
      rw [okP_iff] at c
      exact ⟨n, rfl, hk S ⟨by omega, by omega, c.1, c.2.1, by rw [Int.sub_zero]; omega⟩ p⟩
    | _ => cases e
end
section
variable {X : Cx} {W : WX} {a : Expr} {fa : SE} {p p2 pos pos2 : Pos}
theorem pd_tupRg (hc : X.calm = true) (hm : X.mg "tuple" = none) (hm2 : X.mg "range" = none) (ha : PE X a (dE X.K W fa)) (hg : Gl X "tuple" := by rfl) (hg2 : Gl X "range" := by rfl) (na2 : starEach [a] X.env = (false, eval a X.env) :: starEach [] X.env := by rfl)
    (na : starEach [.Call (.Name "range" p2) [a] [] pos2] X.env = (false, eval (.Call (.Name "range" p2) [a] [] pos2) X.env) :: starEach [] X.env := by rfl) :
    PE X (.Call (.Name "tuple" p) [.Call (.Name "range" p2) [a] [] pos2] [] pos) (dE X.K W (rgD tupRV fa)) :=
  (pe_tupRg hc hg hm (prg_1 hg2 hm2 ha na2) na).wk fun σ H Q q => by
    have := dE_rg (R0 := fun n H1 Q => RgOk 0 n ∧ ∀ q, H1 q = none → Q (.ref q) (upd H1 q (.tup (rgV 0 n)))) q fun {F R env n H1} S ok p => ⟨ok, fun q hq => post_tup S p hq (rgV_rel n)⟩
    exact this
end
end
end Dw
namespace Dw
noncomputable section
open PySem PySem.Spec PyProof.Rows L2
variable [Glo] [Tabs]
section
variable {K : PySem.W.Frag} {W : WX} {F F' : Hp} {R R' : Fm} {σ : L2.St} {H H' : Hp} {env : Sl} {Q : VK}
def outM (i j : Nat) (b : Bool) (env : Sl) : FR → Option Re
  | .ok a outs => match outs[j]? with
    | some (.own true c) => (retV a).map (Re.ok · (env.set i (.own b c)))
    | _ => none
  | .ex e outs => match outs[j]? with
    | some (.own true c) => some (.ex e (env.set i (.own b c)))
    | _ => none
def callM (j : Nat) (m : List SV → Option FR) (dfs : List D) (fa : SA) : SE := fun env => bindA (fa env) fun as env1 => match as[j]? with
  | some (.cv i) => (frzs (as.set j (.d .non)) env1).bind fun p => match p.2[i]? with
    | some (.own b c) => (m (((p.1 ++ dfs).map .d).set j (.own true c))).bind (outM i j b p.2)
    | _ => none
  | _ => none
end
end
end Dw
namespace Dw
end Dw
namespace Dw
noncomputable section
open PySem PySem.Spec PyProof.Rows L2
variable [Glo] [Tabs]
def asgT (tg : Tg) (fe : SE) : SS := fun env => bindS (fe env) fun a env1 => (frz a env1).bind fun p => (putT tg p.1 p.2).map .nx
section
variable {K : PySem.W.Frag} {W : WX} {σ : L2.St} {H : Hp} {En : Ends}
theorem dS_asgT {tg : Tg} {fe : SE} (h : dS K W (asgT tg fe) En σ H) : tAsg (dE K W fe) (gT K tg) En σ H := by
  obtain ⟨env, F, R, r, S, e, p⟩ := h
  rcases bindS_inv e with ⟨a, env1, h1, h2⟩ | ⟨x, env1, h1, rfl⟩
  · rw [Option.bind_eq_some_iff] at h2
    obtain ⟨⟨x, env2⟩, h3, h4⟩ := h2
    rw [Option.map_eq_some_iff] at h4
    obtain ⟨env3, h5, rfl⟩ := h4
    refine ⟨env, F, R, _, S, h1, fun v F1 H1 e1 S1 rv => ?_⟩
    obtain ⟨F2, e2, S2, r2⟩ := frz_ok S1 rv h3
    exact putT_ok S2 r2 h5 fun σ' S3 => p σ' F2 H1 (e1.trans e2) S3
  · exact ⟨env, F, R, _, S, h1, fun cls d F' H' e1 S1 hx => p cls d σ F' H' e1 S1 hx⟩
end
section
variable {X : Cx} {W : WX} {tg e : Expr} {t : Tg} {fe : SE} {pos : Pos}
theorem ps_dasgT (he : PE X e (dE X.K W fe)) (hg : PG X tg (gT X.K t)) (hs : swapsWithSole [tg] e pos.line X.env = pure false := by rfl) (hw : swappedStores [tg] e X.env = pure none := by rfl)
    (h1 : (assignEach [tg] X.env).map (·.2) = [assign tg X.env] := by rfl) : PS X (.Assign [tg] e pos) (dS X.K W (asgT t fe)) := (ps_asg he hg hs hw h1).wk fun _ _ _ q => dS_asgT q
end
end
end Dw
namespace Dw
end Dw
namespace Dw
noncomputable section
open PySem PySem.Spec PyProof.Rows L2
variable [Glo] [Tabs]
open PySem.Sem (wp)
def ItB (t : Bool) (h : Heap) (it l : Addr) (k : Nat) : Prop := if t then h.IsTupleIter it l k else h.IsListIter it l k
def SqB (t : Bool) (h : Heap) (l : Addr) (xs : Array Value) : Prop := if t then h.IsTuple l xs else h.IsList l xs
section
variable {t u : Bool} {h h' : Heap} {it l c : Addr} {k : Nat} {xs : Array Value}
theorem ItB.keep (q : ItB t h it l k) (e : ∀ o, h.get? it = some o → h'.get? it = some o) : ItB t h' it l k := by
  cases t
  · exact Heap.IsListIter.at q e
  · exact Heap.IsTupleIter.at q e
theorem SqB.push (q : SqB t h l xs) (o : Obj) : SqB t (h.push o) l xs := by
  cases t
  · exact Heap.IsList.push q o
  · exact Heap.IsTuple.push q o
theorem ItB.obj (q : ItB t h it l k) : ∃ o, h.get? it = some o ∧ ∀ v, o.data ≠ .cell v := by
  cases t
  · obtain ⟨o, ho, _, hd⟩ := (q : h.IsListIter it l k)
    exact ⟨o, ho, fun v z => by rw [hd] at z; cases z⟩
  · obtain ⟨o, ho, _, hd⟩ := (q : h.IsTupleIter it l k)
    exact ⟨o, ho, fun v z => by rw [hd] at z; cases z⟩
end
end
end Dw
namespace Dw
end Dw
namespace Dw
noncomputable section
open PySem PySem.Spec PyProof.Rows L2
variable [Glo] [Tabs]
def SqX (t : Bool) (K : PySem.W.Frag) (H : Hp) (a : Addr) (xs : List V) : Prop := if t then SqT K H a xs else SqL K H a xs
theorem SqX.ex {t : Bool} {K : PySem.W.Frag} {H H' : Hp} {a : Addr} {xs : List V} (e : Ex H H') (q : SqX t K H a xs) : SqX t K H' a xs := by
  cases t
  · exact ex_l e q
  · exact ex_t e q
section
variable {X : Cx} {pins : List (Addr × Obj)} {σ : L2.St} {H : Hp} {s : Shared}
theorem SqX.at {t : Bool} {a : Addr} {xs : List V} (I : Inv X pins σ H s) (q : SqX t X.K H a xs) : ∃ its : List Value, Vals xs its ∧ SqB t s.heap a its.toArray := by
  cases t
  · obtain ⟨its, r, p, _⟩ := I.list q
    exact ⟨its, r, p.isList⟩
  · obtain ⟨its, r, p, _⟩ := I.tuple q
    exact ⟨its, r, p⟩
theorem SqX.inj {t : Bool} {a : Addr} {xs ys : List V} (I : Inv X pins σ H s) (q : SqX t X.K H a xs) (r : SqX t X.K H a ys) : xs = ys := by
  cases t
  · exact I.list_inj q r
  · exact I.tuple_inj q r
end
end
end Dw
namespace Dw
noncomputable section
open PySem PySem.Spec PyProof.Rows L2
variable [Glo] [Tabs]
def zipL : List D → List D → List D
  | x :: xs, y :: ys => .tup [x, y] :: zipL xs ys
  | _, _ => []
def seqZ : D → Option (Bool × List D)
  | .lst xs => some (false, xs)
  | .tup xs => some (true, xs)
  | _ => none
def zipE (fa : SA) : SI := fun env => bindAI (fa env) fun as env1 => (frzs as env1).bind fun p => match p.1 with
  | [x, y] => (seqZ x).bind fun a => (seqZ y).map fun b => .ok (zipL a.2 b.2) p.2
  | _ => none
end
end Dw
namespace Dw
end Dw
namespace Dw
noncomputable section
open PySem PySem.Spec PyProof.Rows L2
variable [Glo] [Tabs]
def setL (j : Nat) (fi fe : SE) : SS := fun env => bindS (fe env) fun a env1 => (frz a env1).bind fun p => (ownL p.2[j]?).bind fun _ => bindS (fi p.2) fun b env2 => match pk b env2 with
  | some (.int k) => (ownL env2[j]?).bind fun o => (ixN o.2.length k).map fun m => .nx (env2.set j (.own o.1 (.lst (o.2.set m p.1))))
  | _ => none
section
variable {K : PySem.W.Frag} {W : WX} {F F' : Hp} {R R' : Fm} {σ : L2.St} {H H' : Hp} {env env' : Sl} {En : Ends} {Q : VK}
def extE (fo fe : SE) : SE := fun env => bindE (fo env) fun a env1 => match a with
  | .cv i => (ownL env1[i]?).bind fun _ => bindE (fe env1) fun b env2 => match b with
    | .own (.lst zs) => (ownL env2[i]?).bind fun o => if o.2.length + zs.length ≤ 100000 then some (.ok (.d .non) (env2.set i (.own o.1 (.lst (o.2 ++ zs))))) else none
    | _ => none
  | _ => none
def popE (fo : SE) : SE := fun env => bindE (fo env) fun a env1 => match a with
  | .cv i => (ownL env1[i]?).bind fun o => (o.2[o.2.length - 1]?).map fun x => .ok (.d x) (env1.set i (.own o.1 (.lst o.2.dropLast)))
  | _ => none
theorem RelAll.dropLast {K : PySem.W.Frag} {F : Hp} {vs : List V} {ds : List D} (h : RelAll K F vs ds) : RelAll K F vs.dropLast ds.dropLast := by
  rw [List.dropLast_eq_take, List.dropLast_eq_take, h.len]
  exact h.take _
def revE (fe : SE) : SE := fun env => bindE (fe env) fun a env1 => match pk a env1 with
  | some (.lst xs) => some (.ok (.own (.lst xs.reverse)) env1)
  | _ => none
end
section
variable {P : Program} {w : World} {K : PySem.W.Frag} {mg : Str → Option Value} {base : Heap} {k : Nat} {f : Addr} {fd : FuncData} {ps : List Str} {np : Nat}
theorem spD_no {vs : List V} {H : Hp} {Q : VK} {E : XK} (h : spD K np (fun _ => none) vs H Q E) : False := by
  obtain ⟨_, _, _, _, _, _, e, _⟩ := h
  cases e
theorem fn0 : FnOk P w K mg base CX0 k f fd ps (spD K np fun _ => none) where
  len := fun vs H Q E h => (spD_no h).elim
  run := fun A outer s H args us vs Q E _ _ _ _ h => (spD_no h).elim
theorem Def.self {x : Str} {n k0 : Nat} {r : Nat → List SV → Option FR} {B : (List SV → Option FR) → SS} (h0 : r 0 = fun _ => none) (hs : ∀ i, r (i + 1) = defM np n (B (r i)))
    (step : ∀ (k : Nat) (m : List SV → Option FR), k0 ≤ k → Def P w K mg base k x np m [] → FnOk P w K mg base CX0 (k + 1) f fd ps (spD K np (defM np n (B m)))) (hm : mg x = some (.ref f)) (hk : PySem.W.keepIn K (.ref f) = true) (hb : Binds K fd ps []) :
    ∀ i, Def P w K mg base (k0 + i) x np (r i) []
  | 0 => by
    rw [h0]
    exact ⟨f, fd, ps, [], [], fn0, hm, hk, hb, .nil, fun _ => .nil, fun _ _ e => by cases e⟩
  | i + 1 => by
    have C := Def.self h0 hs step hm hk hb i
    have F := step (k0 + i) (r i) (Nat.le_add_right _ _) C
    rw [hs]
    exact Def.mk0 F hm hk hb
end
end
end Dw
namespace Dw
end Dw
namespace Dw
noncomputable section
open PySem PySem.Spec PyProof.Rows L2
variable [Glo] [Tabs]
section
variable {X : Cx} {W : WX} {P c : Addr} {scope : Scope} {x : Str} {elt iter : Expr} {pb : Nat → Bool} {te : TE} {k : Nat} {px p pos gpos : Pos}
def allE (fe : SE) (pb : Nat → Bool) : SE := fun env => bindE (fe env) fun a env1 => match pk a env1 with
  | some (.str s) => some (.ok (.d (.bl (s.all pb))) env1)
  | _ => none
end
end
end Dw
namespace Dw
noncomputable section
open PySem PySem.Spec PyProof.Rows L2
def tabFree (K : PySem.W.Frag) (y : Str) : Bool := match PySem.W.tabIn K y with
  | some (_, P) => (K.lookup P).isNone
  | none => false
theorem tabFree_of {K : PySem.W.Frag} {y : Str} (h : tabFree K y = true) : ∃ c P, PySem.W.tabIn K y = some (c, P) ∧ K.lookup P = none := by
  unfold tabFree at h
  split at h
  · rename_i c P e
    exact ⟨c, P, e, Option.isNone_iff_eq_none.mp h⟩
  · cases h
end
end Dw
namespace Dw
noncomputable section
open PySem PySem.Spec PyProof.Rows L2
variable [Glo] [Tabs]
def betE (i : Int) (fe : SE) (j : Int) : SE := fun env => bindE (fe env) fun a env1 => match pk a env1 with
  | some (.int n) => some (.ok (.d (.bl (decide (i ≤ n) && decide (n ≤ j)))) env1)
  | _ => none
end
end Dw
namespace Dw
noncomputable section
open PySem PySem.Spec PyProof.Rows L2
variable [Glo] [Tabs]
def listTC : List D → Option RV
  | [.str s] => if s.length ≤ 100000 then some (.own (.lst (s.map fun c => .str [c]))) else none
  | _ => none
def rListT : List V → Hp → VK → Prop := fun xs H Q => ∃ s : List Nat, xs = [.str (mk s)] ∧ s.length ≤ 100000 ∧ ∀ l, H l = none → Q (.ref l) (upd H l (.lst (s.map fun c => V.str (mk [c]))))
theorem vals_signs : ∀ {s : List Nat} {us : List Value}, us.length = s.length → (∀ (j : Nat) v, us[j]? = some v → ∃ c t, s[j]? = some c ∧ v = .str ⟨#[c]⟩ t) → Vals (s.map fun c => V.str (mk [c])) us
  | [], [], _, _ => .nil
  | [], _ :: _, h, _ => by cases h
  | _ :: _, [], h, _ => by cases h
  | c :: s, u :: us, h, g => by
    obtain ⟨c', t, e1, e2⟩ := g 0 u rfl
    cases e1
    subst e2
    exact .cons ⟨t, rfl⟩ (vals_signs (by simpa using h) fun j v e => g (j + 1) v (by simpa using e))
theorem rel_signs {K : PySem.W.Frag} {F : Hp} : ∀ s : List Nat, RelAll K F (s.map fun c => V.str (mk [c])) (s.map fun c => D.str [c])
  | [] => .nil
  | c :: s => .cons (.str [c]) (rel_signs s)
theorem cr_listT {X : Cx} (hc : X.calm = true) : CallR X (.type "list") rListT := by
  intro pins s σ H xs us Q I r h
  obtain ⟨t, rfl, hz, q⟩ := h
  obtain ⟨u, rfl, tk, rfl⟩ := vals1 r
  have hs : (100000 : Nat) ≤ sizeLine := by decide
  have ht : (mk t).cps.size = t.length := by simp [mk]
  refine call_list_str (I.ok.hd hc) (mk t) tk (fun h' tk' acc c' hk hS hacc => ?_) (by rw [ht]; omega)
  have hv : Vals (t.map fun c => V.str (mk [c])) acc.toList := vals_signs (by rw [Array.length_toList, hacc.1, ht]) fun j v e => by
    obtain ⟨c, u, e1, e2⟩ := hacc.2 j v (by rw [← Array.getElem?_toList]; exact e)
    exact ⟨c, u, by simpa [mk] using e1, e2⟩
  exact ⟨.ref s.heap.objs.size, upd H s.heap.objs.size (.lst (t.map fun c => V.str (mk [c]))), I.laid (t' := tk') hk (Nat.le_refl _)
    (show ObjOk X.prog X.w _ _ _ (.lst (t.map fun c => V.str (mk [c]))) from ⟨by rw [List.length_map]; omega, acc.toList, c', hv, by rw [Array.toArray_toList]; exact hS⟩), rfl, q _ (I.hok.fresh (Nat.le_refl _))⟩
theorem snd_listT {K : PySem.W.Frag} : SndC K listTC rListT := by
  intro W F R σ H env Q xs vs z S h e p
  match xs, h, e with
  | [.str s], h, e =>
    obtain ⟨c, rfl⟩ := some_if e
    obtain ⟨v, rfl, hv⟩ := vw1 h
    cases hv
    exact ⟨s, rfl, c, fun q hq => post_new S p hq (rel_signs s)⟩
end
end Dw
namespace Dw
end Dw
namespace Dw
noncomputable section
open PySem PySem.Spec PyProof.Rows L2
/-- the code and the table of the def y -/
def cpOf (K : PySem.W.Frag) (y : Str) : Addr × Addr := (PySem.W.tabIn K y).getD (0, 0)
/-- ls: those of them whose table holds lambdas' code -/
abbrev tabsOf (K : PySem.W.Frag) (ys : List Str) (ls : List Str := []) : Tabs := ⟨fun z => ∃ y ∈ ys, z = (cpOf K y).2, none, fun z => (ls.find? fun y => z == (cpOf K y).2).map (· ++ ".<locals>.<lambda>")⟩
theorem cpOf_is {K : PySem.W.Frag} {y : Str} (h : tabFree K y = true) : PySem.W.tabIn K y = some (cpOf K y) ∧ K.lookup (cpOf K y).2 = none := by
  obtain ⟨c, P, e, n⟩ := tabFree_of h
  have e2 : cpOf K y = (c, P) := by unfold cpOf; rw [e]; rfl
  rw [e2]
  exact ⟨e, n⟩
theorem walk_tabs {ls : List Str} {l : PySem.W.OpenLaw} {n k : Nat} {q : Program} {loose : List Str} {XP : (Str → Option Value) → Heap → Prop} {YP : World → Heap → Prop} {d : DefRec} {K : Params → PySem.W.Frag} {x : Str} {m : List SV → Option FR} (gl : World → (Str → Option Value) → Glo) (ys : List Str)
    (hn : l.most = some n) (hn2 : n ≤ sizeLine) (hdf : d.params.defaults = []) (hr : Room k callerA) (hY : ∀ (w : World) (h : Heap), YP w h → (K w.params).In h)
    (hrec : (ys.all fun y => ((recsOf q).find? fun e => e.name == y).isSome) = true) (hfree : ∀ p : Params, (ys.all fun y => tabFree (K p) y) = true)
    (F : ∀ (w : World) (mg : Str → Option Value) (fa : Addr) (h : Heap), (K w.params).In h → h.Ns mainGlobals mg → mg d.name = some (.ref fa) → (∀ y ∈ ys, PySem.W.tabIn (K w.params) y = some (cpOf (K w.params) y)) →
      ∃ fd : FuncData, (∀ (s : Shared) (u : Value), BindsTo s fd ⟨[u], []⟩ [(x, u)]) ∧ ∀ base : Heap, (K w.params).In base → base.Ns mainGlobals mg → (∀ y ∈ ys, GxR.TabB base mg (cpOf (K w.params) y).1 (cpOf (K w.params) y).2) → FnOk l.prog w (K w.params) mg base CX0 k fa fd [x] (@spD (gl w mg) (tabsOf (K w.params) ys ls) (K w.params) 1 m))
    (hm : ∀ (_ : Glo) (_ : Tabs) (ns : List Int), ns.length ≤ n → ∃ o, m [.d (.lst (ns.map .int))] = some (.ok (.d (.bl true)) o)) :
    PySem.W.WalkO q loose XP YP l.row.toRowW d [] (fun f vs => PySem.call f vs) := by
  refine Att.attach_callB hn hdf fun w s₀ s₁ mg mb fa o pm cd doc a vs ns G Y ho hd hcd hmg hobj hints hlen hbits hg => ?_
  have KX := hY w _ Y
  have fr : ∀ y ∈ ys, PySem.W.tabIn (K w.params) y = some (cpOf (K w.params) y) ∧ (K w.params).lookup (cpOf (K w.params) y).2 = none := fun y hy => cpOf_is (List.all_eq_true.mp (hfree w.params) y hy)
  have tb : ∀ y ∈ ys, PySem.W.CodeHd s₁.heap (cpOf (K w.params) y).1 (cpOf (K w.params) y).2 ∧ s₁.heap.get? (cpOf (K w.params) y).2 = some { cls := .none, data := .fields #[] } := fun y hy => by
    obtain ⟨dr, hdr⟩ := Option.isSome_iff_exists.mp (List.all_eq_true.mp hrec y hy)
    exact PySem.W.tab_of G.T KX hdr (fr y hy).1
  obtain ⟨fd, hb, hF⟩ := F w mg fa _ KX G.T.g hmg fun y hy => (fr y hy).1
  have of : ∀ {p : Addr × Addr}, p ∈ ys.map (cpOf (K w.params)) → ∃ y ∈ ys, p = cpOf (K w.params) y := fun h => let ⟨y, h1, h2⟩ := List.mem_map.mp h; ⟨y, h1, h2.symm⟩
  refine LamX.law_callTs (cs := ys.map (cpOf (K w.params))) KX G.T.g G.T.b G.T.builtins G.T.nolimit hg (fun p h => by obtain ⟨y, hy, rfl⟩ := of h; exact (tb y hy).2) (fun p h => by obtain ⟨y, hy, rfl⟩ := of h; exact (fr y hy).2) (fun p h => by obtain ⟨y, hy, rfl⟩ := of h; exact (tb y hy).1) G.T.bmain hobj hints (Nat.le_trans hlen hn2) hr
    (fun base h1 h2 h3 => hF base h1 h2 fun y hy => let t := h3 _ (List.mem_map.mpr ⟨y, hy, rfl⟩); ⟨t.code, t.bm, t.gP⟩) hb (fun H hH hS => ?_) (fun H e s' h => h)
  obtain ⟨o, ho⟩ := hm (gl w mg) (tabsOf (K w.params) ys ls) ns hlen
  refine @law_sp (gl w mg) (tabsOf (K w.params) ys ls) _ _ _ _ _ _ _ (fun z hz => ?_) hS ho
  obtain ⟨y, hy, hz⟩ : ∃ y ∈ ys, z = (cpOf (K w.params) y).2 := hz
  subst hz
  exact hH _ (List.mem_map.mpr ⟨y, hy, rfl⟩)
end
end Dw
namespace Dw
end Dw
namespace Dw
end Dw
namespace Dw
noncomputable section
open PySem PySem.Spec PyProof.Rows L2
variable [Glo] [Tabs]
structure DefG (CX : CXT) (P : Program) (w : World) (K : PySem.W.Frag) (mg : Str → Option Value) (base : Heap) (k : Nat) (x : Str) (np : Nat) (m : List SV → Option FR) (dfs : List D) : Prop where
  ex : ∃ (f : Addr) (fd : FuncData) (ps : List Str) (ds : List Value) (dvs : List V), FnOk P w K mg base CX k f fd ps (spD K np m) ∧ mg x = some (.ref f) ∧ PySem.W.keepIn K (.ref f) = true ∧ Binds K fd ps ds ∧ Vals dvs ds ∧ (∀ F : Hp, RelAll K F dvs dfs) ∧ ∀ as fr, m as = some fr → as.length = np
theorem DefG.mk0 {CX : CXT} {P : Program} {w : World} {K : PySem.W.Frag} {mg : Str → Option Value} {base : Heap} {k : Nat} {x : Str} {m : List SV → Option FR} {f : Addr} {fd : FuncData} {ps : List Str} (F : FnOk P w K mg base CX k f fd ps (spD K ps.length m)) (hl : ∀ as fr, m as = some fr → as.length = ps.length) (hm : mg x = some (.ref f)) (hk : PySem.W.keepIn K (.ref f) = true) (hb : Binds K fd ps []) : DefG CX P w K mg base k x ps.length m [] :=
  ⟨f, fd, ps, [], [], F, hm, hk, hb, .nil, fun _ => .nil, hl⟩
theorem DefG.to {P : Program} {w : World} {K : PySem.W.Frag} {mg : Str → Option Value} {base : Heap} {k : Nat} {x : Str} {np : Nat} {m : List SV → Option FR} {dfs : List D} (C : DefG CX0 P w K mg base k x np m dfs) : Def P w K mg base k x np m dfs := ⟨C.ex⟩
end
end Dw
namespace Dw
noncomputable section
open PySem PySem.Spec PyProof.Rows L2
variable [Glo] [Tabs]
def xnOf (x : Str) (d : D) : Xn := ⟨x, [("place", d), ("word", .str x.cps.toList)]⟩
def raiseS (x : Str) (fa : SA) : SS := fun env => match fa env with
  | some (.ok as env1) => (frzs as env1).bind fun p => match p.1 with
    | [d] => some (.ex (xnOf x d) p.2)
    | _ => none
  | some (.ex e env1) => some (.ex e env1)
  | none => none
def raiseNS (x : Str) : SS := fun env => some (.ex (xnOf x .non) env)
end
end Dw
namespace Dw
noncomputable section
open PySem PySem.Spec PyProof.Rows L2
variable [Glo] [Tabs]
def xfE (i : Nat) (f : Str) : SE := fun env => match env[i]? with
  | some (.xn e) => (e.fs.lookup f).map fun x => .ok (.d x) env
  | _ => none
def isxE (i : Nat) (cl : List Str) : SE := fun env => match env[i]? with
  | some (.xn e) => some (.ok (.d (.bl (decide (e.cls ∈ cl)))) env)
  | _ => none
section
variable {X : Cx} {W : WX} {a : Addr} {oe : Obj} {cls : Value} {d : Option Addr} {pn : List (Addr × Obj)} {i : Nat} {n f : Str} {pos p : Pos}
/-- several readings of one thing -/
theorem _root_.L2.PE.some {X : Cx} {e : Expr} {ι : Type} {P : ι → Prop} {t : ι → TE} (h : ∀ c, P c → PE X e (t c)) : PE X e (fun σ H Q => ∃ c, P c ∧ t c σ H Q) := ⟨fun pins s σ H Q I ⟨c, h1, q⟩ => (h c h1).run pins s σ H Q I q⟩
end
end
end Dw
namespace Dw
noncomputable section
open PySem PySem.Spec PyProof.Rows L2
variable [Glo] [Tabs]
def chainE (g g' : D → D → Option RV) (fa fb fc : SE) : SE := fun env => bindE (fa env) fun a env1 => bindE (fb env1) fun b env2 =>
  (pk a env2).bind fun x => (pk b env2).bind fun y => match g x y with
    | some (.d (.bl true)) => bindE (fc env2) fun c env3 => (pk b env3).bind fun y' => (pk c env3).bind fun z => (g' y' z).map (Re.ok · env3)
    | some (.d (.bl false)) => some (.ok (.d (.bl false)) env2)
    | _ => none
def callD0 (m : List SV → Option FR) (dfs : List D) : SE := fun env => (m (dfs.map .d)).bind (outD env)
end
end Dw
namespace Dw
end Dw
namespace Dw
section
variable [Glo] [Tabs]
@[simp] theorem cD_lst {xs : List D} : cD (.lst xs) = .lst xs := rfl
end
end Dw
namespace Dw
noncomputable section
open PySem PySem.Spec PyProof.Rows L2
variable [Glo] [Tabs]
abbrev QE := RV → Sl → Prop
abbrev QX := Xn → Sl → Prop
def wr (r : Option Re) (Q : QE) (E : QX) : Prop := match r with
  | some (.ok a e) => Q a e
  | some (.ex x e) => E x e
  | none => False
def wra (r : Option ReA) (Q : List RV → Sl → Prop) (E : QX) : Prop := match r with
  | some (.ok a e) => Q a e
  | some (.ex x e) => E x e
  | none => False
def wri (r : Option ReI) (Q : List D → Sl → Prop) (E : QX) : Prop := match r with
  | some (.ok a e) => Q a e
  | some (.ex x e) => E x e
  | none => False
structure Ks where
  rt : QE
  bk : Sl → Prop
  ct : Sl → Prop
  ex : QX
def wrs (r : Option Out) (N : Sl → Prop) (k : Ks) : Prop := match r with
  | some (.nx e) => N e
  | some (.rt a e) => k.rt a e
  | some (.bk e) => k.bk e
  | some (.ct e) => k.ct e
  | some (.ex x e) => k.ex x e
  | none => False
def wF (r : Option FR) (Q : RV → List SV → Prop) (E : Xn → List SV → Prop) : Prop := match r with
  | some (.ok a o) => Q a o
  | some (.ex x o) => E x o
  | none => False
def wE (f : SE) (env : Sl) (Q : QE) (E : QX) : Prop := wr (f env) Q E
def wA (f : SA) (env : Sl) (Q : List RV → Sl → Prop) (E : QX) : Prop := wra (f env) Q E
def wI (f : SI) (env : Sl) (Q : List D → Sl → Prop) (E : QX) : Prop := wri (f env) Q E
def wS (f : SS) (env : Sl) (N : Sl → Prop) (k : Ks) : Prop := wrs (f env) N k
def nE : QX := fun _ _ => False
def nS : Sl → Prop := fun _ => False
def nX : Xn → List SV → Prop := fun _ _ => False
section
variable {env env1 env2 : Sl} {a b : RV} {x y dx dy : D} {z : RV} {i : Nat} {f g : D → D → Option RV} {fa fb fc fo fe : SE} {as : List RV} {fr fs : SA} {xs ys : List D} {r : Option Re} {Q : QE} {E : QX} {QA : List RV → Sl → Prop} {QI : List D → Sl → Prop}
theorem wr_mono {Q' : QE} {E' : QX} (h : wr r Q E) (hq : ∀ a e, Q a e → Q' a e) (he : ∀ x e, E x e → E' x e) : wr r Q' E' := by
  cases r with
  | none => exact h.elim
  | some r => cases r with
    | ok a e => exact hq _ _ h
    | ex x e => exact he _ _ h
theorem wF_mono {r : Option FR} {Q Q' : RV → List SV → Prop} {E E' : Xn → List SV → Prop} (h : wF r Q E) (hq : ∀ a o, Q a o → Q' a o) (he : ∀ x o, E x o → E' x o) : wF r Q' E' := by
  cases r with
  | none => exact h.elim
  | some r => cases r with
    | ok a e => exact hq _ _ h
    | ex x e => exact he _ _ h
theorem wF_get {r : Option FR} {Q : RV → List SV → Prop} (h : wF r Q nX) : ∃ a o, r = some (.ok a o) ∧ Q a o := by
  cases r with
  | none => exact h.elim
  | some r => cases r with
    | ok a o => exact ⟨a, o, rfl, h⟩
    | ex x o => exact h.elim
theorem wr_ok {a : RV} {e : Sl} (h : r = some (.ok a e)) (q : Q a e) : wr r Q E := by subst h; exact q
theorem wr_bind {k : RV → SE} (h : wr r (fun a e => wr (k a e) Q E) E) : wr (bindE r k) Q E := by
  cases r with
  | none => exact h.elim
  | some r => cases r with
    | ok a e => exact h
    | ex x e => exact h
theorem wra_bind {k : RV → SA} (h : wr r (fun a e => wra (k a e) QA E) E) : wra (bindEA r k) QA E := by
  cases r with
  | none => exact h.elim
  | some r => cases r with
    | ok a e => exact h
    | ex x e => exact h
theorem wr_bindA {r : Option ReA} {k : List RV → SE} (h : wra r (fun a e => wr (k a e) Q E) E) : wr (bindA r k) Q E := by
  cases r with
  | none => exact h.elim
  | some r => cases r with
    | ok a e => exact h
    | ex x e => exact h
theorem wri_bind {k : RV → SI} (h : wr r (fun a e => wri (k a e) QI E) E) : wri (bindI r k) QI E := by
  cases r with
  | none => exact h.elim
  | some r => cases r with
    | ok a e => exact h
    | ex x e => exact h
theorem wri_bindA {r : Option ReA} {k : List RV → SI} (h : wra r (fun a e => wri (k a e) QI E) E) : wri (bindAI r k) QI E := by
  cases r with
  | none => exact h.elim
  | some r => cases r with
    | ok a e => exact h
    | ex x e => exact h
theorem wrs_bind {k : RV → SS} {N : Sl → Prop} {K : Ks} (h : wr r (fun a e => wrs (k a e) N K) K.ex) : wrs (bindS r k) N K := by
  cases r with
  | none => exact h.elim
  | some r => cases r with
    | ok a e => exact h
    | ex x e => exact h
theorem w_const (q : Q (.d x) env) : wE (constE x) env Q E := q
theorem w_var (h : env[i]? = some (.d x)) (q : Q (.d x) env) : wE (varE i) env Q E := wr_ok (ev_var h) q
theorem w_varO {c : C} {t : Bool} (h : env[i]? = some (.own t c)) (q : Q (.cv i) env) : wE (varE i) env Q E := wr_ok (ev_varO h) q
theorem w_two (h : wE fa env (fun u e1 => wE fb e1 (fun v e2 => wr (op2 f u v e2) Q E) E) E) : wE (two (op2 f) fa fb) env Q E := wr_bind (wr_mono h (fun _ _ h => wr_bind h) fun _ _ h => h)
theorem w_op (hx : pk a env = some dx) (hy : pk b env = some dy) (hz : f dx dy = some z) (q : Q z env) : wr (op2 f a b env) Q E := by
  unfold op2; rw [hx, Option.bind_some, hy, Option.bind_some, hz]; exact q
theorem w_one {g : D → Option RV} (h : wE fa env (fun u e1 => wr ((pk u e1).bind fun x => (g x).map (Re.ok · e1)) Q E) E) : wE (oneE g fa) env Q E := wr_bind h
theorem w_op1 {g : D → Option RV} (hx : pk a env = some dx) (hz : g dx = some z) (q : Q z env) : wr ((pk a env).bind fun x => (g x).map (Re.ok · env)) Q E := by
  rw [hx, Option.bind_some, hz]; exact q
def wB (a : RV) (env : Sl) (T F : Prop) : Prop := ∃ t, tru a env = some t ∧ (t = true → T) ∧ (t = false → F)
theorem w_b {t : Bool} {T F : Prop} (h : tru a env = some t) (hT : t = true → T) (hF : t = false → F) : wB a env T F := ⟨t, h, hT, hF⟩
theorem w_bT {T F : Prop} (h : tru a env = some true) (hT : T) : wB a env T F := ⟨true, h, fun _ => hT, fun h => by cases h⟩
theorem w_bF {T F : Prop} (h : tru a env = some false) (hF : F) : wB a env T F := ⟨false, h, fun h => (by cases h), fun _ => hF⟩
theorem w_not (h : wE fa env (fun u e1 => wr ((tru u e1).map fun b => Re.ok (.d (.bl (!b))) e1) Q E) E) : wE (notE fa) env Q E := wr_bind h
theorem w_not1 {t : Bool} (h : tru a env = some t) (q : Q (.d (.bl (!t))) env) : wr ((tru a env).map fun b => Re.ok (.d (.bl (!b))) env) Q E := by rw [h]; exact q
theorem w_and (h : wE fa env (fun u e1 => wB u e1 (wE fb e1 Q E) (Q u e1)) E) : wE (andE fa fb) env Q E :=
  wr_bind (wr_mono h (fun u e1 h => by
    obtain ⟨t, h1, h2, h3⟩ := h
    rw [h1]
    cases t with
    | true => exact h2 rfl
    | false => exact h3 rfl) fun _ _ h => h)
theorem w_or (h : wE fa env (fun u e1 => wB u e1 (Q u e1) (wE fb e1 Q E)) E) : wE (orE fa fb) env Q E :=
  wr_bind (wr_mono h (fun u e1 h => by
    obtain ⟨t, h1, h2, h3⟩ := h
    rw [h1]
    cases t with
    | true => exact h2 rfl
    | false => exact h3 rfl) fun _ _ h => h)
theorem w_ife (h : wE fc env (fun u e1 => wB u e1 (wE fa e1 Q E) (wE fb e1 Q E)) E) : wE (ifE fc fa fb) env Q E :=
  wr_bind (wr_mono h (fun u e1 h => by
    obtain ⟨t, h1, h2, h3⟩ := h
    rw [h1]
    cases t with
    | true => exact h2 rfl
    | false => exact h3 rfl) fun _ _ h => h)
theorem w_nil (q : QA [] env) : wA nilA env QA E := q
theorem wra_map {r : Option ReA} {h : List RV → List RV} (q : wra r (fun as e => QA (h as) e) E) : wra (mapA r h) QA E := by
  cases r with
  | none => exact q.elim
  | some r => cases r with
    | ok a e => exact q
    | ex x e => exact q
theorem w_cons (h : wE fa env (fun u e1 => wA fs e1 (fun as e2 => QA (u :: as) e2) E) E) : wA (consA fa fs) env QA E := wra_bind (wr_mono h (fun _ _ h => wra_map h) fun _ _ h => h)
theorem w_callE {g : List D → Option RV} (h : wA fs env (fun as e1 => wr ((pks as e1).bind fun xs => (g xs).map (Re.ok · e1)) Q E) E) : wE (callE g fs) env Q E := wr_bindA h
theorem w_opE {g : List D → Option RV} (hx : pks as env = some xs) (hz : g xs = some z) (q : Q z env) : wr ((pks as env).bind fun xs => (g xs).map (Re.ok · env)) Q E := by
  rw [hx, Option.bind_some, hz]; exact q
theorem w_isi {n : String} (h : wE fa env (fun u e1 => wr ((pk u e1).bind fun x => if okI x then some (Re.ok (.d (.bl (isiD n x))) e1) else none) Q E) E) : wE (isiE n fa) env Q E := wr_bind h
theorem w_isi1 {n : String} (hx : pk a env = some x) (o : okI x = true) (q : Q (.d (.bl (isiD n x))) env) : wr ((pk a env).bind fun x => if okI x then some (Re.ok (.d (.bl (isiD n x))) env) else none) Q E := by
  rw [hx, Option.bind_some, if_pos o]; exact q
theorem w_tup (h : wA fs env (fun as e1 => wr ((frzs as e1).bind fun p => if p.1.length ≤ 100000 then some (Re.ok (.d (.tup p.1)) p.2) else none) Q E) E) : wE (tupE fs) env Q E := wr_bindA h
theorem w_tup1 (h : frzs as env = some (xs, env1)) (hl : xs.length ≤ 100000) (q : Q (.d (.tup xs)) env1) : wr ((frzs as env).bind fun p => if p.1.length ≤ 100000 then some (Re.ok (.d (.tup p.1)) p.2) else none) Q E := by
  rw [h, Option.bind_some, if_pos hl]; exact q
theorem w_lst (h : wA fs env (fun as e1 => wr ((frzs as e1).bind fun p => if p.1.length ≤ 100000 then some (Re.ok (.own (.lst p.1)) p.2) else none) Q E) E) : wE (lstE fs) env Q E := wr_bindA h
theorem w_lst1 (h : frzs as env = some (xs, env1)) (hl : xs.length ≤ 100000) (q : Q (.own (.lst xs)) env1) : wr ((frzs as env).bind fun p => if p.1.length ≤ 100000 then some (Re.ok (.own (.lst p.1)) p.2) else none) Q E := by
  rw [h, Option.bind_some, if_pos hl]; exact q
theorem w_met {T : String} {g : D → List D → Option RV} (h : wE fo env (fun u e1 => wr ((pk u e1).bind fun x0 => if tyD x0 = T then bindA (fs e1) fun as env2 => (pk u env2).bind fun x => (pks as env2).bind fun xs => (g x xs).map (Re.ok · env2) else none) Q E) E) : wE (metE T g fo fs) env Q E := wr_bind h
theorem w_met1 {T : String} {g : D → List D → Option RV} (hx : pk a env = some x) (ht : tyD x = T) (h : wA fs env (fun as e2 => wr ((pk a e2).bind fun x => (pks as e2).bind fun xs => (g x xs).map (Re.ok · e2)) Q E) E) :
    wr ((pk a env).bind fun x0 => if tyD x0 = T then bindA (fs env) fun as env2 => (pk a env2).bind fun x => (pks as env2).bind fun xs => (g x xs).map (Re.ok · env2) else none) Q E := by
  rw [hx, Option.bind_some, if_pos ht]; exact wr_bindA h
theorem w_met2 {g : D → List D → Option RV} (hx : pk a env = some x) (hs : pks as env = some xs) (hz : g x xs = some z) (q : Q z env) : wr ((pk a env).bind fun x => (pks as env).bind fun xs => (g x xs).map (Re.ok · env)) Q E := by
  rw [hx, Option.bind_some, hs, Option.bind_some, hz]; exact q
/-- calls -/
def wC (r : Option FR) (env : Sl) (Q : QE) (E : QX) : Prop := wF r (fun u _ => ∃ u', retV u = some u' ∧ Q u' env) (fun x _ => E x env)
theorem wC_wr {r : Option FR} (h : wC r env Q E) : wr (r.bind (outD env)) Q E := by
  cases r with
  | none => exact h.elim
  | some r => cases r with
    | ok a o =>
      obtain ⟨u', h1, h2⟩ := h
      show wr ((retV a).map (Re.ok · env)) Q E
      rw [h1]; exact h2
    | ex x o => exact h
theorem w_callD {m : List SV → Option FR} {ds : List D} (h : wA fs env (fun as e1 => wr ((frzs as e1).bind fun p => (m ((p.1 ++ ds).map .d)).bind (outD p.2)) Q E) E) : wE (callD m ds fs) env Q E := wr_bindA h
theorem w_callD1 {m : List SV → Option FR} {ds : List D} {vs : List SV} (h : frzs as env = some (xs, env1)) (he : (xs ++ ds).map SV.d = vs) (q : wC (m vs) env1 Q E) : wr ((frzs as env).bind fun p => (m ((p.1 ++ ds).map .d)).bind (outD p.2)) Q E := by
  rw [h, Option.bind_some]; dsimp only; rw [he]; exact wC_wr q
theorem w_callD0 {m : List SV → Option FR} {ds : List D} (q : wC (m (ds.map .d)) env Q E) : wE (callD0 m ds) env Q E := wC_wr q
theorem wC_nx {r : Option FR} {Q0 : RV → List SV → Prop} (h : wF r Q0 nX) (hq : ∀ u o, Q0 u o → ∃ u', retV u = some u' ∧ Q u' env) : wC r env Q E := wF_mono h hq fun _ _ h => h.elim
theorem wC_ok {r : Option FR} {u u' : RV} {o : List SV} (h : r = some (.ok u o)) (hr : retV u = some u') (q : Q u' env) : wC r env Q E := by subst h; exact ⟨u', hr, q⟩
theorem wC_d {r : Option FR} {P : D → Prop} (h : wF r (fun u _ => ∃ d, u = .d d ∧ P d) nX) (hq : ∀ d, P d → Q (.d d) env) : wC r env Q E := wC_nx h fun u o h => by
  obtain ⟨d, rfl, hp⟩ := h
  exact ⟨_, rfl, hq d hp⟩
/-- a call that changes a list of one's own -/
def wM (r : Option FR) (i j : Nat) (t : Bool) (env : Sl) (Q : QE) (E : QX) : Prop := wF r (fun u o => ∃ t' c u', o[j]? = some (.own true c) ∧ t' = env.set i (.own t c) ∧ retV u = some u' ∧ Q u' t') (fun x o => ∃ c t', o[j]? = some (.own true c) ∧ t' = env.set i (.own t c) ∧ E x t')
theorem wM_wr {r : Option FR} {i j : Nat} {t : Bool} (h : wM r i j t env Q E) : wr (r.bind (outM i j t env)) Q E := by
  cases r with
  | none => exact h.elim
  | some r => cases r with
    | ok a o =>
      obtain ⟨t', c, u', h0, rfl, h1, h2⟩ := h
      show wr (match o[j]? with
        | some (.own true c) => (retV a).map (Re.ok · (env.set i (.own t c)))
        | _ => none) Q E
      rw [h0]
      dsimp only
      rw [h1]; exact h2
    | ex x o =>
      obtain ⟨c, t', h0, rfl, h2⟩ := h
      show wr (match o[j]? with
        | some (.own true c) => some (.ex x (env.set i (.own t c)))
        | _ => none) Q E
      rw [h0]; exact h2
theorem w_callM {j : Nat} {m : List SV → Option FR} {ds : List D} (h : wA fs env (fun as e1 => wr (match as[j]? with
  | some (.cv i) => (frzs (as.set j (.d .non)) e1).bind fun p => match p.2[i]? with
    | some (.own b c) => (m (((p.1 ++ ds).map .d).set j (.own true c))).bind (outM i j b p.2)
    | _ => none
  | _ => none) Q E) E) : wE (callM j m ds fs) env Q E := wr_bindA h
theorem w_callM1 {i j : Nat} {t : Bool} {c : C} {m : List SV → Option FR} {ds : List D} {as' : List RV} {vs vs' : List SV} (h1 : as[j]? = some (.cv i)) (ha : as.set j (.d .non) = as') (h2 : frzs as' env = some (xs, env1)) (h3 : env1[i]? = some (.own t c)) (he : (xs ++ ds).map SV.d = vs) (he' : vs.set j (.own true c) = vs') (q : wM (m vs') i j t env1 Q E) :
    wr (match as[j]? with
  | some (.cv i) => (frzs (as.set j (.d .non)) env).bind fun p => match p.2[i]? with
    | some (.own b c) => (m (((p.1 ++ ds).map .d).set j (.own true c))).bind (outM i j b p.2)
    | _ => none
  | _ => none) Q E := by
  rw [h1]; dsimp only; rw [ha, h2, Option.bind_some]; dsimp only; rw [h3]; dsimp only; rw [he, he']; exact wM_wr q
theorem wM_ok {r : Option FR} {i j : Nat} {t : Bool} {u u' : RV} {o : List SV} {c : C} (h : r = some (.ok u o)) (ho : o[j]? = some (.own true c)) (he : env.set i (.own t c) = env1) (hr : retV u = some u') (q : Q u' env1) : wM r i j t env Q E := by subst h; exact ⟨_, c, u', ho, he.symm, hr, q⟩
/-- things that change a list -/
theorem w_mut {g : List D → List D → Option (D × List D)} (h : wE fo env (fun u e1 => wr (match u with
  | .cv i => (ownL e1[i]?).bind fun _ => bindA (fs e1) fun as env2 => (frzs as env2).bind fun p => (ownL p.2[i]?).bind fun o => (g o.2 p.1).map fun q => Re.ok (.d q.1) (p.2.set i (.own o.1 (.lst q.2)))
  | _ => none) Q E) E) : wE (mutE g fo fs) env Q E := wr_bind h
theorem w_mut1 {g : List D → List D → Option (D × List D)} {t : Bool} (h : env[i]? = some (.own t (.lst ys))) (q : wA fs env (fun as e2 => wr ((frzs as e2).bind fun p => (ownL p.2[i]?).bind fun o => (g o.2 p.1).map fun q => Re.ok (.d q.1) (p.2.set i (.own o.1 (.lst q.2)))) Q E) E) :
    wr (match RV.cv i with
  | .cv i => (ownL env[i]?).bind fun _ => bindA (fs env) fun as env2 => (frzs as env2).bind fun p => (ownL p.2[i]?).bind fun o => (g o.2 p.1).map fun q => Re.ok (.d q.1) (p.2.set i (.own o.1 (.lst q.2)))
  | _ => none) Q E := by
  dsimp only; rw [h]; exact wr_bindA q
theorem w_mut2 {g : List D → List D → Option (D × List D)} {t : Bool} {ys' : List D} (h : frzs as env = some (xs, env1)) (h2 : env1[i]? = some (.own t (.lst ys))) (h3 : g ys xs = some (x, ys')) (h4 : env1.set i (.own t (.lst ys')) = env2) (q : Q (.d x) env2) :
    wr ((frzs as env).bind fun p => (ownL p.2[i]?).bind fun o => (g o.2 p.1).map fun q => Re.ok (.d q.1) (p.2.set i (.own o.1 (.lst q.2)))) Q E := by
  subst h4
  rw [h, Option.bind_some]; dsimp only; rw [h2]; show wr ((g ys xs).map _) Q E; rw [h3]; exact q
theorem w_ext (h : wE fo env (fun u e1 => wr (match u with
  | .cv i => (ownL e1[i]?).bind fun _ => bindE (fe e1) fun b env2 => match b with
    | .own (.lst zs) => (ownL env2[i]?).bind fun o => if o.2.length + zs.length ≤ 100000 then some (.ok (.d .non) (env2.set i (.own o.1 (.lst (o.2 ++ zs))))) else none
    | _ => none
  | _ => none) Q E) E) : wE (extE fo fe) env Q E := wr_bind h
theorem w_ext1 {t : Bool} (h : env[i]? = some (.own t (.lst ys))) (q : wE fe env (fun v env2 => wr (match v with
    | .own (.lst zs) => (ownL env2[i]?).bind fun o => if o.2.length + zs.length ≤ 100000 then some (.ok (.d .non) (env2.set i (.own o.1 (.lst (o.2 ++ zs))))) else none
    | _ => none) Q E) E) :
    wr (match RV.cv i with
  | .cv i => (ownL env[i]?).bind fun _ => bindE (fe env) fun b env2 => match b with
    | .own (.lst zs) => (ownL env2[i]?).bind fun o => if o.2.length + zs.length ≤ 100000 then some (.ok (.d .non) (env2.set i (.own o.1 (.lst (o.2 ++ zs))))) else none
    | _ => none
  | _ => none) Q E := by
  dsimp only; rw [h]; exact wr_bind q
theorem w_ext2 {t : Bool} (h : env[i]? = some (.own t (.lst ys))) (hl : ys.length + xs.length ≤ 100000) (h4 : env.set i (.own t (.lst (ys ++ xs))) = env2) (q : Q (.d .non) env2) :
    wr (match RV.own (.lst xs) with
    | .own (.lst zs) => (ownL env[i]?).bind fun o => if o.2.length + zs.length ≤ 100000 then some (.ok (.d .non) (env.set i (.own o.1 (.lst (o.2 ++ zs))))) else none
    | _ => none) Q E := by
  subst h4
  dsimp only; rw [h]; show wr (if ys.length + xs.length ≤ 100000 then _ else _) Q E; rw [if_pos hl]; exact q
theorem w_pop (h : wE fo env (fun u e1 => wr (match u with
  | .cv i => (ownL e1[i]?).bind fun o => (o.2[o.2.length - 1]?).map fun x => .ok (.d x) (e1.set i (.own o.1 (.lst o.2.dropLast)))
  | _ => none) Q E) E) : wE (popE fo) env Q E := wr_bind h
theorem w_pop1 {t : Bool} (h : env[i]? = some (.own t (.lst ys))) (h2 : ys[ys.length - 1]? = some x) (h4 : env.set i (.own t (.lst ys.dropLast)) = env2) (q : Q (.d x) env2) : wr (match RV.cv i with
  | .cv i => (ownL env[i]?).bind fun o => (o.2[o.2.length - 1]?).map fun x => .ok (.d x) (env.set i (.own o.1 (.lst o.2.dropLast)))
  | _ => none) Q E := by
  subst h4
  dsimp only; rw [h]; show wr ((ys[ys.length - 1]?).map _) Q E; rw [h2]; exact q
/-- slices -/
theorem w_sl {fl fh : Option SE} (h : wE fe env (fun u e1 => wr (bindO fl e1 fun lo env2 => bindO fh env2 fun hi env3 => (pk u env3).bind fun x => (cutD x lo hi).map (Re.ok · env3)) Q E) E) : wE (sliceE fe fl fh) env Q E := wr_bind h
theorem w_bo0 {k : Option Int → SE} (h : wr (k none env) Q E) : wr (bindO none env k) Q E := h
def wbo (a : RV) (env : Sl) (k : Option Int → SE) (Q : QE) (E : QX) : Prop := wr (match pk a env with
    | some (.int i) => k (some i) env
    | _ => none) Q E
theorem w_bo1 {k : Option Int → SE} (h : wE fa env (fun u e1 => wbo u e1 k Q E) E) : wr (bindO (some fa) env k) Q E := wr_bind h
theorem w_bo2 {k : Option Int → SE} {n : Int} (hx : pk a env = some (.int n)) (h : wr (k (some n) env) Q E) : wbo a env k Q E := by unfold wbo; rw [hx]; exact h
theorem w_sl1 {lo hi : Option Int} (hx : pk a env = some x) (hz : cutD x lo hi = some z) (q : Q z env) : wr ((pk a env).bind fun x => (cutD x lo hi).map (Re.ok · env)) Q E := by
  rw [hx, Option.bind_some, hz]; exact q
/-- comprehensions -/
theorem w_comp {vs : List Nat} {fi : SI} {tg : Tg} {ft : Option SE} (h : wI fi env (fun xs e1 => wr ((compD vs tg ft fe xs [] (clr vs e1)).map fun p => .ok (.own (.lst p.1)) (rst vs e1 p.2)) Q E) E) : wE (compE vs fi tg ft fe) env Q E := by
  show wr (compE vs fi tg ft fe env) Q E
  unfold compE
  unfold wI at h
  cases hf : fi env with
  | none => rw [hf] at h; exact h.elim
  | some r => rw [hf] at h; cases r with
    | ok xs e => exact h
    | ex x e => exact h
theorem w_comp1 {vs : List Nat} {tg : Tg} {ft : Option SE} (h : compD vs tg ft fe xs [] (clr vs env) = some (ys, env1)) (he : rst vs env env1 = env2) (q : Q (.own (.lst ys)) env2) : wr ((compD vs tg ft fe xs [] (clr vs env)).map fun p => .ok (.own (.lst p.1)) (rst vs env p.2)) Q E := by
  subst he; rw [h]; exact q
theorem w_all {pb : Nat → Bool} (h : wE fe env (fun u e1 => wr (match pk u e1 with
  | some (.str s) => some (.ok (.d (.bl (s.all pb))) e1)
  | _ => none) Q E) E) : wE (allE fe pb) env Q E := wr_bind h
theorem w_all1 {pb : Nat → Bool} {s : List Nat} (hx : pk a env = some (.str s)) (q : Q (.d (.bl (s.all pb))) env) : wr (match pk a env with
  | some (.str s) => some (.ok (.d (.bl (s.all pb))) env)
  | _ => none) Q E := by rw [hx]; exact q
theorem w_bet {i j : Int} (h : wE fe env (fun u e1 => wr (match pk u e1 with
  | some (.int n) => some (.ok (.d (.bl (decide (i ≤ n) && decide (n ≤ j)))) e1)
  | _ => none) Q E) E) : wE (betE i fe j) env Q E := wr_bind h
theorem w_bet1 {i j n : Int} (hx : pk a env = some (.int n)) (q : Q (.d (.bl (decide (i ≤ n) && decide (n ≤ j)))) env) : wr (match pk a env with
  | some (.int n) => some (.ok (.d (.bl (decide (i ≤ n) && decide (n ≤ j)))) env)
  | _ => none) Q E := by rw [hx]; exact q
theorem w_rev (h : wE fe env (fun u e1 => wr (match pk u e1 with
  | some (.lst xs) => some (.ok (.own (.lst xs.reverse)) e1)
  | _ => none) Q E) E) : wE (revE fe) env Q E := wr_bind h
theorem w_rev1 (hx : pk a env = some (.lst xs)) (q : Q (.own (.lst xs.reverse)) env) : wr (match pk a env with
  | some (.lst xs) => some (.ok (.own (.lst xs.reverse)) env)
  | _ => none) Q E := by rw [hx]; exact q
theorem w_rg {g : List D → RV} (h : wE fa env (fun u e1 => wr (match pk u e1 with
  | some (.int n) => if okP (-(2 ^ 62) ≤ n ∧ n < 2 ^ 62 ∧ n.toNat ≤ 100000) then some (.ok (g ((List.range n.toNat).map fun i => .int (i : Nat))) e1) else none
  | _ => none) Q E) E) : wE (rgD g fa) env Q E := wr_bind h
/-- the exception in hand -/
theorem w_xf {f : Str} {e : Xn} (h : env[i]? = some (.xn e)) (h2 : e.fs.lookup f = some x) (q : Q (.d x) env) : wE (xfE i f) env Q E := by
  show wr (xfE i f env) Q E
  unfold xfE; rw [h]; dsimp only; rw [h2]; exact q
theorem w_isx {cl : List Str} {e : Xn} (h : env[i]? = some (.xn e)) (q : Q (.d (.bl (decide (e.cls ∈ cl)))) env) : wE (isxE i cl) env Q E := by
  show wr (isxE i cl env) Q E
  unfold isxE; rw [h]; exact q
theorem look_place {x : Str} {d : D} : List.lookup ("place" : Str) (xnOf x d).fs = some d := rfl
theorem look_word {x : Str} {d : D} : List.lookup ("word" : Str) (xnOf x d).fs = some (D.str x.cps.toList) := rfl
/-- a <= b <= c -/
theorem w_chain {g' : D → D → Option RV} (h : wE fa env (fun u e1 => wE fb e1 (fun v e2 => wr ((pk u e2).bind fun x => (pk v e2).bind fun y => match g x y with
    | some (.d (.bl true)) => bindE (fc e2) fun c env3 => (pk v env3).bind fun y' => (pk c env3).bind fun z => (g' y' z).map (Re.ok · env3)
    | some (.d (.bl false)) => some (.ok (.d (.bl false)) e2)
    | _ => none) Q E) E) E) : wE (chainE g g' fa fb fc) env Q E := wr_bind (wr_mono h (fun _ _ h => wr_bind h) fun _ _ h => h)
theorem w_chain1 {g' : D → D → Option RV} {t : Bool} (hx : pk a env = some x) (hy : pk b env = some y) (hg : g x y = some (.d (.bl t)))
    (hT : t = true → wE fc env (fun c e3 => wr (op2 g' b c e3) Q E) E) (hF : t = false → Q (.d (.bl false)) env) :
    wr ((pk a env).bind fun x => (pk b env).bind fun y => match g x y with
    | some (.d (.bl true)) => bindE (fc env) fun c env3 => (pk b env3).bind fun y' => (pk c env3).bind fun z => (g' y' z).map (Re.ok · env3)
    | some (.d (.bl false)) => some (.ok (.d (.bl false)) env)
    | _ => none) Q E := by
  rw [hx, Option.bind_some, hy, Option.bind_some, hg]
  cases t with
  | true => exact wr_bind (hT rfl)
  | false => exact hF rfl
theorem w_src (h : wE fe env (fun u e1 => wri ((frz u e1).bind fun p => (itemsD p.1).map fun xs => .ok xs p.2) QI E) E) : wI (srcE fe) env QI E := wri_bind h
theorem w_src1 (h : frz a env = some (x, env1)) (h2 : itemsD x = some xs) (q : QI xs env1) : wri ((frz a env).bind fun p => (itemsD p.1).map fun xs => .ok xs p.2) QI E := by
  rw [h, Option.bind_some]; dsimp only; rw [h2]; exact q
theorem w_args {g : List D → Option (List D)} (h : wA fs env (fun as e1 => wri ((pks as e1).bind fun xs => (g xs).map fun ys => .ok ys e1) QI E) E) : wI (argsI g fs) env QI E := wri_bindA h
theorem w_args1 {g : List D → Option (List D)} (h : pks as env = some xs) (h2 : g xs = some ys) (q : QI ys env) : wri ((pks as env).bind fun xs => (g xs).map fun ys => .ok ys env) QI E := by
  rw [h, Option.bind_some, h2]; exact q
theorem w_enum (h : wA fs env (fun as e1 => wri (match as with
  | [a] => (frz a e1).bind fun p => (match p.1 with | .lst xs => some (enumL 0 xs) | .str x => some (enumL 0 (x.map fun c => .str [c])) | _ => none).map fun ys => .ok ys p.2
  | _ => none) QI E) E) : wI (enumE fs) env QI E := wri_bindA h
theorem w_enum1 (h : frz a env = some (.lst xs, env1)) (q : QI (enumL 0 xs) env1) : wri (match [a] with
  | [a] => (frz a env).bind fun p => (match p.1 with | .lst xs => some (enumL 0 xs) | .str x => some (enumL 0 (x.map fun c => .str [c])) | _ => none).map fun ys => .ok ys p.2
  | _ => none) QI E := by dsimp only; rw [h]; exact q
theorem w_enum2 {s : List Nat} (h : frz a env = some (.str s, env1)) (q : QI (enumL 0 (s.map fun c => .str [c])) env1) : wri (match [a] with
  | [a] => (frz a env).bind fun p => (match p.1 with | .lst xs => some (enumL 0 xs) | .str x => some (enumL 0 (x.map fun c => .str [c])) | _ => none).map fun ys => .ok ys p.2
  | _ => none) QI E := by dsimp only; rw [h]; exact q
theorem w_zip (h : wA fs env (fun as e1 => wri ((frzs as e1).bind fun p => match p.1 with
  | [x, y] => (seqZ x).bind fun a => (seqZ y).map fun b => .ok (zipL a.2 b.2) p.2
  | _ => none) QI E) E) : wI (zipE fs) env QI E := wri_bindA h
theorem w_zip1 {t u : Bool} (h : frzs as env = some ([x, y], env1)) (h1 : seqZ x = some (t, xs)) (h2 : seqZ y = some (u, ys)) (q : QI (zipL xs ys) env1) : wri ((frzs as env).bind fun p => match p.1 with
  | [x, y] => (seqZ x).bind fun a => (seqZ y).map fun b => .ok (zipL a.2 b.2) p.2
  | _ => none) QI E := by rw [h, Option.bind_some]; dsimp only; rw [h1, Option.bind_some, h2]; exact q
end
section
variable {env env1 env2 : Sl} {f g : SS} {fe fc : SE} {a : RV} {x : D} {i : Nat} {tg : Tg} {body : SS} {fi : SI} {xs ys : List D} {fa : SA} {as : List RV} {N : Sl → Prop} {k : Ks} {R : QE} {B Ct : Sl → Prop} {E : QX}
theorem wrs_mono {r : Option Out} {N' : Sl → Prop} {k' : Ks} (h : wrs r N k) (hn : ∀ e, N e → N' e) (hr : ∀ a e, k.rt a e → k'.rt a e) (hb : ∀ e, k.bk e → k'.bk e) (hc : ∀ e, k.ct e → k'.ct e) (he : ∀ x e, k.ex x e → k'.ex x e) : wrs r N' k' := by
  cases r with
  | none => exact h.elim
  | some r => cases r with
    | nx e => exact hn _ h
    | rt a e => exact hr _ _ h
    | bk e => exact hb _ h
    | ct e => exact hc _ h
    | ex x e => exact he _ _ h
theorem wS_mono {N' : Sl → Prop} {k' : Ks} (h : wS f env N k) (hn : ∀ e, N e → N' e) (hr : ∀ a e, k.rt a e → k'.rt a e) (hb : ∀ e, k.bk e → k'.bk e) (hc : ∀ e, k.ct e → k'.ct e) (he : ∀ x e, k.ex x e → k'.ex x e) : wS f env N' k' := wrs_mono h hn hr hb hc he
theorem w_seq (h : wS f env (fun e => wS g e N k) k) : wS (seqS f g) env N k := by
  unfold wS at h ⊢
  unfold seqS
  cases hf : f env with
  | none => rw [hf] at h; exact h.elim
  | some r => rw [hf] at h; cases r <;> exact h
/-- the second knows of the first what P says -/
theorem w_seqP (P : Sl → Prop) (h1 : wS f env P k) (h2 : ∀ e, P e → wS g e N k) : wS (seqS f g) env N k := w_seq (wrs_mono h1 h2 (fun _ _ h => h) (fun _ h => h) (fun _ h => h) fun _ _ h => h)
theorem w_skip (q : N env) : wS skipS env N k := q
def wSt (i : Nat) (a : RV) (env : Sl) (N : Sl → Prop) : Prop := ∃ e, storeR i a env = some e ∧ N e
theorem w_st (h : storeR i a env = some env1) (q : N env1) : wSt i a env N := ⟨_, h, q⟩
theorem w_asg (h : wE fe env (fun u e1 => wSt i u e1 N) E) : wS (asgS i fe) env N ⟨R, B, Ct, E⟩ := wrs_bind (wr_mono h (fun u e1 h => by
  obtain ⟨e, h1, h2⟩ := h
  rw [h1]; exact h2) fun _ _ h => h)
def wTu (tg : Tg) (a : RV) (env : Sl) (N : Sl → Prop) : Prop := ∃ x e1 e2, frz a env = some (x, e1) ∧ putT tg x e1 = some e2 ∧ N e2
theorem w_tu (h : frz a env = some (x, env1)) (h2 : putT tg x env1 = some env2) (q : N env2) : wTu tg a env N := ⟨_, _, _, h, h2, q⟩
theorem w_asgT (h : wE fe env (fun u e1 => wTu tg u e1 N) E) : wS (asgT tg fe) env N ⟨R, B, Ct, E⟩ := wrs_bind (wr_mono h (fun u e1 h => by
  obtain ⟨x, e2, e3, h1, h2, h3⟩ := h
  rw [h1, Option.bind_some]
  dsimp only
  rw [h2]
  exact h3) fun _ _ h => h)
theorem w_seqP2 {f2 : SS} (P : Sl → Prop) (h1 : wS f env (fun e => wS f2 e P k) k) (h2 : ∀ e, P e → wS g e N k) : wS (seqS f (seqS f2 g)) env N k := w_seqP _ h1 fun _ h => w_seqP P h h2
theorem w_seqP3 {f2 f3 : SS} (P : Sl → Prop) (h1 : wS f env (fun e => wS f2 e (fun e => wS f3 e P k) k) k) (h2 : ∀ e, P e → wS g e N k) : wS (seqS f (seqS f2 (seqS f3 g))) env N k := w_seqP _ h1 fun _ h => w_seqP2 P h h2
theorem w_expr (h : wE fe env (fun _ e1 => N e1) E) : wS (exprS fe) env N ⟨R, B, Ct, E⟩ := wrs_bind h
theorem w_ret (h : wE fe env R E) : wS (retS fe) env N ⟨R, B, Ct, E⟩ := wrs_bind h
theorem w_retN (h : R (.d .non) env) : wS retNS env N ⟨R, B, Ct, E⟩ := h
theorem w_brk (h : B env) : wS breakS env N ⟨R, B, Ct, E⟩ := h
theorem w_cnt (h : Ct env) : wS contS env N ⟨R, B, Ct, E⟩ := h
theorem w_ite (h : wE fc env (fun u e1 => wB u e1 (wS f e1 N ⟨R, B, Ct, E⟩) (wS g e1 N ⟨R, B, Ct, E⟩)) E) : wS (iteS fc f g) env N ⟨R, B, Ct, E⟩ := wrs_bind (wr_mono h (fun u e1 h => by
    obtain ⟨t, h1, h2, h3⟩ := h
    rw [h1]
    cases t with
    | true => exact h2 rfl
    | false => exact h3 rfl) fun _ _ h => h)
theorem w_for (h : wI fi env (fun xs e1 => wS (loopD tg body xs) e1 N ⟨R, B, Ct, E⟩) E) : wS (forS fi tg body) env N ⟨R, B, Ct, E⟩ := by
  unfold wS forS
  unfold wI at h
  cases hf : fi env with
  | none => rw [hf] at h; exact h.elim
  | some r => rw [hf] at h; cases r with
    | ok xs e => exact h
    | ex x e => exact h
/-- the same over things of any kind -/
theorem w_loopM {α : Type} {d : α → D} {l : List α} (I : List α → Sl → Prop) (h0 : I [] env) (hs : ∀ pre x suf e, l = pre ++ x :: suf → I pre e → ∃ e1, putT tg (d x) e = some e1 ∧ wS body e1 (I (pre ++ [x])) ⟨R, N, I (pre ++ [x]), E⟩) (hn : ∀ e, I l e → N e) : wS (loopD tg body (l.map d)) env N ⟨R, B, Ct, E⟩ := by
  have go : ∀ suf pre e, l = pre ++ suf → I pre e → wS (loopD tg body (suf.map d)) e N ⟨R, B, Ct, E⟩ := by
    intro suf
    induction suf with
    | nil => intro pre e h1 h2; rw [List.append_nil] at h1; subst h1; exact hn e h2
    | cons x suf ih =>
      intro pre e h1 h2
      obtain ⟨e1, g1, g2⟩ := hs pre x suf e h1 h2
      unfold wS at g2 ⊢
      rw [List.map_cons, loopD, g1, Option.bind_some]
      have ih' := fun e => ih (pre ++ [x]) e (by rw [h1, List.append_assoc]; rfl)
      cases hb : body e1 with
      | none => rw [hb] at g2; exact g2.elim
      | some r => rw [hb] at g2; cases r with
        | nx e => exact ih' e g2
        | rt a e => exact g2
        | bk e => exact g2
        | ct e => exact ih' e g2
        | ex x e => exact g2
  exact go l [] env rfl h0
/-- over range(n) -/
theorem w_loopR {n : Nat} (I : Nat → Sl → Prop) (h0 : I 0 env) (hs : ∀ k e, k < n → I k e → ∃ e1, putT tg (.int k) e = some e1 ∧ wS body e1 (I (k + 1)) ⟨R, N, I (k + 1), E⟩) (hn : ∀ e, I n e → N e) : wS (loopD tg body ((List.range n).map fun i => .int (i : Nat))) env N ⟨R, B, Ct, E⟩ :=
  w_loopM (fun pre e => I pre.length e) h0 (fun pre x suf e h hi => by
    have hx : x = pre.length := by
      have h1 : (List.range n)[pre.length]? = some x := by rw [h, List.getElem?_append_right (Nat.le_refl _), Nat.sub_self]; rfl
      have h2 : pre.length < n := by
        have := congrArg List.length h
        rw [List.length_range, List.length_append, List.length_cons] at this
        omega
      rw [List.getElem?_range h2] at h1
      exact (Option.some.inj h1).symm
    have h2 : pre.length < n := by
        have := congrArg List.length h
        rw [List.length_range, List.length_append, List.length_cons] at this
        omega
    subst hx
    obtain ⟨e1, g1, g2⟩ := hs pre.length e h2 hi
    rw [List.length_append, List.length_singleton]
    exact ⟨e1, g1, g2⟩) (fun e h => hn e (by rw [List.length_range] at h; exact h))
theorem wE_get {f : SE} {e : Sl} {Q : QE} (h : wE f e Q nE) : ∃ a e1, f e = some (.ok a e1) ∧ Q a e1 := by
  unfold wE at h
  cases hf : f e with
  | none => rw [hf] at h; exact h.elim
  | some r => rw [hf] at h; cases r with
    | ok a e1 => exact ⟨a, e1, rfl, h⟩
    | ex x e1 => exact h.elim
theorem w_compM {α : Type} {d g : α → D} {l : List α} {vs : List Nat} {e0 : Sl} (hl : l.length ≤ 100000) (h : ∀ x ∈ l, ∃ e1, putT tg (d x) e0 = some e1 ∧ wE fe e1 (fun u e2 => ∃ e3, frz u e2 = some (g x, e3) ∧ clr vs e3 = e0) nE) : compD vs tg none fe (l.map d) [] e0 = some (l.map g, e0) := by
  have go : ∀ (l : List α) (acc : List D), (∀ x ∈ l, ∃ e1, putT tg (d x) e0 = some e1 ∧ wE fe e1 (fun u e2 => ∃ e3, frz u e2 = some (g x, e3) ∧ clr vs e3 = e0) nE) → acc.length + l.length ≤ 100000 → compD vs tg none fe (l.map d) acc e0 = some (acc ++ l.map g, e0) := by
    intro l
    induction l with
    | nil => intro acc _ _; rw [List.map_nil, List.map_nil, List.append_nil]; rfl
    | cons x l ih =>
      intro acc h hl
      obtain ⟨e1, h1, h2⟩ := h x (List.mem_cons_self ..)
      obtain ⟨a, e2, h3, e3, h4, h5⟩ := wE_get h2
      rw [List.map_cons, compD, h1, Option.bind_some]
      show (eltD fe e1).bind _ = _
      unfold eltD
      rw [h3]
      dsimp only
      rw [h4, Option.bind_some, if_pos (by rw [List.length_cons] at hl; omega)]
      dsimp only
      rw [h5, ih (acc ++ [g x]) (fun y hy => h y (List.mem_cons_of_mem _ hy)) (by rw [List.length_append, List.length_singleton]; rw [List.length_cons] at hl; omega), List.append_assoc]
      rfl
  have := go l [] h (by simpa using hl)
  rwa [List.nil_append] at this
theorem w_compF {α : Type} {d g : α → D} {p : α → Bool} {l : List α} {vs : List Nat} {e0 : Sl} (hl : l.length ≤ 100000) (h : ∀ x ∈ l, ∃ e1, putT tg (d x) e0 = some e1 ∧ wE fc e1 (fun u e2 => tru u e2 = some (p x) ∧ (p x = true → wE fe e2 (fun u e2 => ∃ e3, frz u e2 = some (g x, e3) ∧ clr vs e3 = e0) nE) ∧ (p x = false → clr vs e2 = e0)) nE) : compD vs tg (some fc) fe (l.map d) [] e0 = some ((l.filter p).map g, e0) := by
  have go : ∀ (l : List α) (acc : List D), (∀ x ∈ l, ∃ e1, putT tg (d x) e0 = some e1 ∧ wE fc e1 (fun u e2 => tru u e2 = some (p x) ∧ (p x = true → wE fe e2 (fun u e2 => ∃ e3, frz u e2 = some (g x, e3) ∧ clr vs e3 = e0) nE) ∧ (p x = false → clr vs e2 = e0)) nE) → acc.length + l.length ≤ 100000 → compD vs tg (some fc) fe (l.map d) acc e0 = some (acc ++ (l.filter p).map g, e0) := by
    intro l
    induction l with
    | nil => intro acc _ _; rw [List.map_nil, List.filter_nil, List.map_nil, List.append_nil]; rfl
    | cons x l ih =>
      intro acc h hl
      obtain ⟨e1, h1, h2⟩ := h x (List.mem_cons_self ..)
      obtain ⟨a, e2, h3, h4, h5, h6⟩ := wE_get h2
      rw [List.length_cons] at hl
      rw [List.map_cons, compD, h1, Option.bind_some]
      unfold bindTD
      dsimp only
      rw [h3]
      dsimp only
      rw [h4, Option.bind_some]
      cases hp : p x with
      | true =>
        obtain ⟨a', e2', g3, e3, g4, g5⟩ := wE_get (h5 hp)
        dsimp only
        unfold eltD
        rw [g3]
        dsimp only
        rw [g4, Option.bind_some, if_pos (by omega)]
        dsimp only
        rw [g5, ih (acc ++ [g x]) (fun y hy => h y (List.mem_cons_of_mem _ hy)) (by rw [List.length_append, List.length_singleton]; omega), List.filter_cons_of_pos hp, List.append_assoc]
        rfl
      | false =>
        dsimp only
        rw [h6 hp, ih acc (fun y hy => h y (List.mem_cons_of_mem _ hy)) (by omega), List.filter_cons_of_neg (by rw [hp]; exact Bool.false_ne_true)]
  have := go l [] h (by simpa using hl)
  rwa [List.nil_append] at this
theorem w_compI {vs : List Nat} {e0 : Sl} (I : List D → Sl → Prop) (hl : xs.length ≤ 100000) (h0 : I [] e0) (h : ∀ x acc e, x ∈ xs → acc.length < xs.length → I acc e → ∃ e1, putT tg x e = some e1 ∧ wE fe e1 (fun u e2 => ∃ y e3, frz u e2 = some (y, e3) ∧ I (acc ++ [y]) (clr vs e3)) nE) : ∃ ys e', compD vs tg none fe xs [] e0 = some (ys, e') ∧ I ys e' ∧ ys.length = xs.length := by
  have go : ∀ (suf acc : List D) (e : Sl), (∀ x ∈ suf, x ∈ xs) → I acc e → acc.length + suf.length = xs.length → ∃ ys e', compD vs tg none fe suf acc e = some (ys, e') ∧ I ys e' ∧ ys.length = xs.length := by
    intro suf
    induction suf with
    | nil => intro acc e _ hi hk; exact ⟨acc, e, rfl, hi, by simpa using hk⟩
    | cons x suf ih =>
      intro acc e hm hi hk
      rw [List.length_cons] at hk
      obtain ⟨e1, h1, h2⟩ := h x acc e (hm x (List.mem_cons_self ..)) (by omega) hi
      obtain ⟨a, e2, h3, y, e3, h4, h5⟩ := wE_get h2
      obtain ⟨ys, e', g1, g2⟩ := ih (acc ++ [y]) (clr vs e3) (fun y hy => hm y (List.mem_cons_of_mem _ hy)) h5 (by rw [List.length_append, List.length_singleton]; omega)
      refine ⟨ys, e', ?_, g2⟩
      rw [compD, h1, Option.bind_some]
      show (eltD fe e1).bind _ = _
      unfold eltD
      rw [h3]
      dsimp only
      rw [h4, Option.bind_some, if_pos (by omega)]
      exact g1
  exact go xs [] e0 (fun _ h => h) h0 (by simp)
/-- xs[i] = e -/
theorem w_setL {j : Nat} {fi : SE} (h : wE fe env (fun u e1 => ∃ d e2 t ys, frz u e1 = some (d, e2) ∧ e2[j]? = some (.own t (.lst ys)) ∧ wE fi e2 (fun v e3 => ∃ n m t' ys' e4, pk v e3 = some (.int n) ∧ e3[j]? = some (.own t' (.lst ys')) ∧ ixN ys'.length n = some m ∧ e3.set j (.own t' (.lst (ys'.set m d))) = e4 ∧ N e4) E) E) : wS (setL j fi fe) env N ⟨R, B, Ct, E⟩ := wrs_bind (wr_mono h (fun u e1 h => by
  obtain ⟨d, e2, t, ys, h1, h2, h3⟩ := h
  rw [h1, Option.bind_some]
  dsimp only
  rw [h2]
  refine wrs_bind (wr_mono h3 (fun v e3 h => ?_) fun _ _ h => h)
  obtain ⟨n, m, t', ys', e4, g1, g2, g3, rfl, g4⟩ := h
  rw [g1]
  dsimp only
  rw [g2]
  show wrs ((ixN ys'.length n).map _) N _
  rw [g3]
  exact g4) fun _ _ h => h)
/-- raise -/
theorem w_raise {c : Str} (h : wA fa env (fun as e1 => ∃ d e2, frzs as e1 = some ([d], e2) ∧ E (xnOf c d) e2) E) : wS (raiseS c fa) env N ⟨R, B, Ct, E⟩ := by
  unfold wS raiseS
  unfold wA at h
  cases hf : fa env with
  | none => rw [hf] at h; exact h.elim
  | some r => rw [hf] at h; cases r with
    | ok as e =>
      obtain ⟨d, e2, h1, h2⟩ := h
      dsimp only
      rw [h1]; exact h2
    | ex x e => exact h
theorem w_raise1 {P : D → Sl → Prop} (h : frzs as env = some ([x], env1)) (q : P x env1) : ∃ d e2, frzs as env = some ([d], e2) ∧ P d e2 := ⟨_, _, h, q⟩
theorem w_raiseN {c : Str} (h : E (xnOf c .non) env) : wS (raiseNS c) env N ⟨R, B, Ct, E⟩ := h
end
theorem w_defM {np n : Nat} {body : SS} {as : List SV} {Q : RV → List SV → Prop} {E : Xn → List SV → Prop} {env : Sl} (hl : as.length = np) (he : as ++ List.replicate n .un = env)
    (h : wS body env (fun e => ∃ o, backs as e = some o ∧ Q (.d .non) o) ⟨fun a e => ∃ a' o, resV a e = some a' ∧ backs as e = some o ∧ Q a' o, nS, nS, nE⟩) : wF (defM np n body as) Q E := by
  subst he
  unfold defM
  rw [if_pos hl]
  unfold runF
  unfold wS at h
  cases hb : body (as ++ List.replicate n .un) with
  | none => rw [hb] at h; exact h.elim
  | some r =>
    rw [hb] at h
    cases r with
    | nx e => obtain ⟨o, h1, h2⟩ := h; dsimp only; rw [h1]; exact h2
    | rt a e => obtain ⟨a', o, h0, h1, h2⟩ := h; dsimp only; rw [h0, Option.bind_some, h1]; exact h2
    | bk e => exact h.elim
    | ct e => exact h.elim
    | ex x e => exact h.elim
theorem w_out1 {as : List SV} {e : Sl} {o : List SV} {P : List SV → Prop} (h1 : backs as e = some o) (q : P o) : ∃ o, backs as e = some o ∧ P o := ⟨o, h1, q⟩
theorem w_out2 {as : List SV} {e : Sl} {o : List SV} {Q : RV → List SV → Prop} {a a' : RV} (h0 : resV a e = some a') (h1 : backs as e = some o) (q : Q a' o) : ∃ a' o, resV a e = some a' ∧ backs as e = some o ∧ Q a' o := ⟨a', o, h0, h1, q⟩
theorem res_d {x : D} {e : Sl} : resV (.d x) e = some (.d x) := rfl
theorem res_own {c : C} {e : Sl} : resV (.own c) e = some (.own c) := rfl
theorem res_cv {c : C} {e : Sl} {i : Nat} (h : e[i]? = some (.own false c)) : resV (.cv i) e = some (.own c) := by unfold resV; dsimp only; rw [h]; rfl
theorem bk_nil {e : Sl} : backs [] e = some [] := rfl
theorem bk_d {x : D} {s : SV} {as o : List SV} {e : Sl} (h : backs as e = some o) : backs (.d x :: as) (s :: e) = some (.d x :: o) := by unfold backs; rw [h]; rfl
theorem bk_own {c c' : C} {as o : List SV} {e : Sl} (h : backs as e = some o) : backs (.own true c :: as) (.own true c' :: e) = some (.own true c' :: o) := by unfold backs; rw [h]; rfl
theorem tru_int {i : Int} {e : Sl} : tru (.d (.int i)) e = some (i != 0) := rfl
theorem tru_non {e : Sl} : tru (.d .non) e = some false := rfl
theorem tru_str {x : List Nat} {e : Sl} (h : x.length ≤ sizeLine) : tru (.d (.str x)) e = some (!x.isEmpty) := by show (if x.length ≤ sizeLine then _ else _) = _; rw [if_pos h]
theorem tru_lst {x : List D} {e : Sl} : tru (.d (.lst x)) e = some (!x.isEmpty) := rfl
theorem tru_tup {x : List D} {e : Sl} : tru (.d (.tup x)) e = some (!x.isEmpty) := rfl
theorem tru_ownl {x : List D} {e : Sl} : tru (.own (.lst x)) e = some (!x.isEmpty) := rfl
theorem tru_cv {x : List D} {t : Bool} {e : Sl} {i : Nat} (h : e[i]? = some (.own t (.lst x))) : tru (.cv i) e = some (!x.isEmpty) := by unfold tru pk; dsimp only; rw [h]; rfl
theorem put_nm {i : Nat} {x : D} {e e1 : Sl} (h : freeSlot e[i]? = true) (h2 : e.set i (.d x) = e1) : putT (.nm i) x e = some e1 := by subst h2; unfold putT setSlot; (try dsimp only); rw [if_pos h]
theorem put_two {i j : Nat} {x y : D} {e e1 e2 : Sl} (h : freeSlot e[i]? = true) (h2 : e.set i (.d x) = e1) (h3 : freeSlot e1[j]? = true) (h4 : e1.set j (.d y) = e2) : putT (.two i j) (.tup [x, y]) e = some e2 := by
  subst h2; subst h4; unfold putT setSlot; (try dsimp only); rw [if_pos h, Option.bind_some, if_pos h3]
theorem put_tnil {e : Sl} : putT .nil (.tup []) e = some e := rfl
theorem put_tcons {g gs : Tg} {x : D} {xs : List D} {e e1 e2 : Sl} (c : gs.isT = true) (h : putT g x e = some e1) (h2 : putT gs (.tup xs) e1 = some e2) : putT (.cons g gs) (.tup (x :: xs)) e = some e2 := by
  unfold putT
  rw [if_pos c, h, Option.bind_some, h2]
theorem fs_at {env : Sl} {i : Nat} {s : SV} (h : env[i]? = some s) (h2 : freeSlot (some s) = true) : freeSlot env[i]? = true := by rw [h]; exact h2
def wSet (i : Nat) (s : SV) (env : Sl) (P : Sl → Prop) : Prop := P (env.set i s)
theorem w_set {i : Nat} {s : SV} {env e : Sl} {P : Sl → Prop} (h : env.set i s = e) (q : P e) : wSet i s env P := by subst h; exact q
theorem setg_z {α : Type} {s t : α} {l : List α} : (s :: l).set 0 t = t :: l := rfl
theorem setg_s {α : Type} {s t : α} {l l' : List α} {n : Nat} (h : l.set n t = l') : (s :: l).set (n + 1) t = s :: l' := by subst h; rfl
theorem rp_z : ([] : List SV) ++ List.replicate 0 SV.un = [] := rfl
theorem rp_c {x : SV} {as l : List SV} {n : Nat} (h : as ++ List.replicate n SV.un = l) : (x :: as) ++ List.replicate n SV.un = x :: l := by subst h; rfl
theorem rp_s {l : List SV} {n : Nat} (h : ([] : List SV) ++ List.replicate n SV.un = l) : ([] : List SV) ++ List.replicate (n + 1) SV.un = .un :: l := by subst h; rfl
theorem cut_tup {xs : List D} {lo hi : Option Int} : cutD (.tup xs) lo hi = some (.d (.tup (cutL xs lo hi))) := rfl
theorem cut_lst {xs : List D} {lo hi : Option Int} : cutD (.lst xs) lo hi = some (.own (.lst (cutL xs lo hi))) := rfl
theorem add_lst {xs ys : List D} (h : xs.length + ys.length ≤ 1000) : addD (.lst xs) (.lst ys) = some (.own (.lst (xs ++ ys))) := if_pos (Nat.le_trans h (by decide))
theorem w_n1 {P : Prop} (h : P) : (!true) = false → P := fun _ => h
theorem w_n2 {P : Prop} : (!true) = true → P := fun h => by cases h
theorem w_n3 {P : Prop} (h : P) : (!false) = true → P := fun _ => h
theorem w_n4 {P : Prop} : (!false) = false → P := fun h => by cases h
theorem w_hT {t : Bool} {P : Prop} (h : t = true) (q : P) : t = true → P := fun _ => q
theorem w_hF {t : Bool} {P : Prop} (h : t = false) : t = true → P := fun g => by rw [h] at g; cases g
theorem w_gT {t : Bool} {P : Prop} (h : t = false) (q : P) : t = false → P := fun _ => q
theorem w_gF {t : Bool} {P : Prop} (h : t = true) : t = false → P := fun g => by rw [h] at g; cases g
theorem w_tt {P : Prop} (h : P) : true = true → P := fun _ => h
theorem w_ff {P : Prop} (h : P) : false = false → P := fun _ => h
theorem w_tf {P : Prop} : true = false → P := fun h => by cases h
theorem w_ft {P : Prop} : false = true → P := fun h => by cases h
end
end Dw
namespace Dw
noncomputable section
open PySem PySem.Spec PyProof.Rows L2
section
variable {α : Type} [DecidableEq α]
def ddS (σ : List α) (v : α) : List α := if v ∈ σ then σ else σ ++ [v]
def dd (xs : List α) : List α := xs.foldl ddS []
end
def setLenD : D → Option Nat
  | .lst xs => (txts xs).bind fun ys => if ys.length ≤ 1000 then some (dd ys).length else none
  | .tup xs => (txts xs).bind fun ys => if ys.length ≤ 1000 then some (dd ys).length else none
  | _ => none
def lenSetE (fe : SE) : SE := fun env => bindE (fe env) fun a env1 => ((pk a env1).bind setLenD).map fun n => Re.ok (.d (.int (n : Nat))) env1
section
variable [Glo] [Tabs] {fe : SE} {env : Sl} {a : RV} {x : D} {n : Nat} {Q : QE} {E : QX}
theorem w_lenSet (h : wE fe env (fun u e1 => wr (((pk u e1).bind setLenD).map fun n => Re.ok (.d (.int (n : Nat))) e1) Q E) E) : wE (lenSetE fe) env Q E := wr_bind h
theorem w_lenSet1 (hx : pk a env = some x) (h : setLenD x = some n) (q : Q (.d (.int (n : Nat))) env) : wr (((pk a env).bind setLenD).map fun n => Re.ok (.d (.int (n : Nat))) env) Q E := by rw [hx, Option.bind_some, h]; exact q
end
end
end Dw
namespace Dw
end Dw
namespace Dw
noncomputable section
open PySem PySem.Spec PyProof.Rows L2
variable [Glo] [Tabs]
def rInU (K : PySem.W.Frag) (g : Bool → Bool) : R2 := fun x y H Q => ∃ d ds, Dp K H x d ∧ Dp K H y (.tuple ds) ∧ SeqAt.shaped d = true ∧ SeqAt.shaped (.tuple ds) = true ∧ Q (.bl (g (ds.any fun z => PyData.eqv z d))) H
section
variable {X : Cx}
theorem op_inU (hu : X.A.units + 65 < cLine) : OpR X (compareOp .In) (rInU X.K id) := by
  rintro pins s σ H x y v u Q I rx ry ⟨d, ds, hd, he, sd, se, q⟩
  obtain ⟨as, r1⟩ := Dp.reads I d x v hd rx
  obtain ⟨bs, r2⟩ := Dp.reads I (.tuple ds) y u he ry
  exact SeqAt.in_tuple_reads r2 r1 (SeqAt.canLay_of_shaped se) (SeqAt.canLay_of_shaped sd) (room_in_shaped sd hu) ⟨.bl _, H, I, rfl, q⟩
theorem op_notInU (hu : X.A.units + 65 < cLine) : OpR X (compareOp .NotIn) (rInU X.K not) := by
  rintro pins s σ H x y v u Q I rx ry ⟨d, ds, hd, he, sd, se, q⟩
  obtain ⟨as, r1⟩ := Dp.reads I d x v hd rx
  obtain ⟨bs, r2⟩ := Dp.reads I (.tuple ds) y u he ry
  exact SeqAt.notIn_tuple_reads r2 r1 (SeqAt.canLay_of_shaped se) (SeqAt.canLay_of_shaped sd) (room_in_shaped sd hu) ⟨.bl _, H, I, rfl, q⟩
end
def inG (x y : D) : Option RV := match y with
  | .tup ys => if (flatD x && ys.all flatD) || (shp x && shp (.tup ys)) then some (.d (.bl (inB x ys))) else none
  | y => inD x y
def notInG (x y : D) : Option RV := match inG x y with
  | some (.d (.bl b)) => some (.d (.bl (!b)))
  | _ => none
theorem inG_in {x y : D} {z : RV} (h : inD x y = some z) : inG x y = some z := by
  cases y with
  | tup ys =>
    obtain ⟨c, e⟩ := some_if (show (if flatD x && ys.all flatD then some (RV.d (.bl (inB x ys))) else none) = _ from h)
    cases e
    show (if _ then _ else _) = _
    rw [c]
    rfl
  | _ => exact h
theorem notInG_of {x y : D} {b : Bool} (h : inG x y = some (.d (.bl b))) : notInG x y = some (.d (.bl (!b))) := by unfold notInG; rw [h]
/-- flat things in a tuple: as before; else data -/
theorem inG_cases {x y : D} {z : RV} (h : inG x y = some z) : inD x y = some z ∨ ∃ ys, y = .tup ys ∧ (shp x = true ∧ shp (.tup ys) = true) ∧ z = .d (.bl (inB x ys)) := by
  cases y with
  | tup ys =>
    obtain ⟨c, e⟩ := some_if (show (if (flatD x && ys.all flatD) || (shp x && shp (.tup ys)) then some (RV.d (.bl (inB x ys))) else none) = _ from h)
    cases e
    by_cases hf : (flatD x && ys.all flatD) = true
    · exact .inl (if_pos hf)
    · rw [Bool.or_eq_true] at c
      have c2 := c.resolve_left hf
      rw [Bool.and_eq_true] at c2
      exact .inr ⟨ys, rfl, c2, rfl⟩
  | _ => exact .inl h
theorem tup_data {K : PySem.W.Frag} {F H : Hp} {x : D} {v w : V} {ys : List D} (e : Ex F H) (hx : Vw K F H v x) (hy : Vw K F H w (.tup ys)) (h : shp x = true ∧ shp (.tup ys) = true) :
    Dp K H v (py x) ∧ Dp K H w (.tuple (pys ys)) ∧ SeqAt.shaped (py x) = true ∧ SeqAt.shaped (.tuple (pys ys)) = true ∧ ((pys ys).any fun z => PyData.eqv z (py x)) = inB x ys :=
  ⟨(hx.rel e).dp _ (shp_pl h.1), (hy.rel e).dp _ (shp_pl h.2), h.1, h.2, any_py x ys⟩
theorem snd_inG {K : PySem.W.Frag} : Snd2 K inG (rOr (rInAny K) (rInU K id)) := by
  intro W F R σ H env Q x y v w z S hx hy e p
  rcases inG_cases e with h | ⟨ys, rfl, hs, rfl⟩
  · exact .inl (snd_in S hx hy h p)
  · obtain ⟨a, b, c, d, e1⟩ := tup_data S.sub hx hy hs
    refine .inr ⟨_, _, a, b, c, d, ?_⟩
    rw [e1]
    exact post_d S p (.bl _)
theorem bl_niG {x y : D} {z : RV} (h : notInG x y = some z) : ∃ b, z = .d (.bl b) := by
  unfold notInG at h
  split at h
  · cases h; exact ⟨_, rfl⟩
  · cases h
theorem snd_niG {K : PySem.W.Frag} : Snd2 K notInG (rOr (rNiAny K) (rInU K not)) := by
  intro W F R σ H env Q x y v w z S hx hy e p
  unfold notInG at e
  cases hi : inG x y with
  | none => rw [hi] at e; cases e
  | some z' =>
    rcases inG_cases hi with h | ⟨ys, rfl, hs, rfl⟩
    · refine .inl (snd_ni S hx hy (z := z) ?_ p)
      unfold notInD
      rw [h]
      rw [hi] at e
      exact e
    · rw [hi] at e
      cases e
      obtain ⟨a, b, c, d, e1⟩ := tup_data S.sub hx hy hs
      refine .inr ⟨_, _, a, b, c, d, ?_⟩
      rw [e1]
      exact post_d S p (.bl _)
section
variable {X : Cx} {W : WX} {a b : Expr} {fa fb : SE} {pos : Pos}
theorem pd_inG (hu : X.A.units + 65 < cLine) (ha : PE X a (dE X.K W fa)) (hb : PE X b (dE X.K W fb)) (hm : behindInMarks .In b = false := by rfl) : PE X (.Compare a [.In] [b] pos) (dE X.K W (two (op2 inG) fa fb)) := pd_cmp (OpR.or (OpR.or op_in_sign (OpR.or op_in_seq (op_inD hu))) (op_inU hu)) snd_inG hm ha hb
theorem pd_notInG (hu : X.A.units + 65 < cLine) (ha : PE X a (dE X.K W fa)) (hb : PE X b (dE X.K W fb)) (hm : behindInMarks .NotIn b = false := by rfl) : PE X (.Compare a [.NotIn] [b] pos) (dE X.K W (two (op2 notInG) fa fb)) := pd_cmp (OpR.or (OpR.or op_notIn_sign (OpR.or op_notIn_seq (op_notInD hu))) (op_notInU hu)) snd_niG hm ha hb
theorem pt_notInGd (hu : X.A.units + 65 < cLine) (ha : PE X a (dE X.K W fa)) (hb : PE X b (dE X.K W fb)) (hm : behindInMarks .NotIn b = false := by rfl) : PT X (.Compare a [.NotIn] [b] pos) (dT X.K W (two (op2 notInG) fa fb)) := pt_dcmp (OpR.or (OpR.or op_notIn_sign (OpR.or op_notIn_seq (op_notInD hu))) (op_notInU hu)) snd_niG (fun _ _ _ => bl_niG) hm ha hb
end
def listG : List D → Option RV
  | [.str s] => listTC [.str s]
  | xs => listC xs
theorem snd_listG {K : PySem.W.Frag} : SndC K listG (fun xs H Q => rListC K xs H Q ∨ rListT xs H Q) := by
  intro W F R σ H env Q xs vs z S h e p
  match xs, h, e with
  | [.str s], h, e => exact .inr (snd_listT S h (xs := [.str s]) e p)
  | [], h, e => exact .inl (snd_list S h (xs := []) e p)
  | [.non], h, e => exact .inl (snd_list S h (xs := [.non]) e p)
  | [.bl b], h, e => exact .inl (snd_list S h (xs := [.bl b]) e p)
  | [.int i], h, e => exact .inl (snd_list S h (xs := [.int i]) e p)
  | [.lst y], h, e => exact .inl (snd_list S h (xs := [.lst y]) e p)
  | [.tup y], h, e => exact .inl (snd_list S h (xs := [.tup y]) e p)
  | [.dct a b], h, e => exact .inl (snd_list S h (xs := [.dct a b]) e p)
  | [.dcu a b], h, e => exact .inl (snd_list S h (xs := [.dcu a b]) e p)
  | [.ins a b c], h, e => exact .inl (snd_list S h (xs := [.ins a b c]) e p)
  | a :: b :: c, h, e => exact .inl (snd_list S h (xs := a :: b :: c) (by cases a <;> exact e) p)
theorem lg_lst {ds : List D} : listG [.lst ds] = some (.own (.lst ds)) := rfl
theorem lg_tup {ds : List D} : listG [.tup ds] = some (.own (.lst ds)) := rfl
theorem lg_str {s : List Nat} (h : s.length ≤ 100000) : listG [.str s] = some (.own (.lst (s.map fun c => .str [c]))) := if_pos h
end
end Dw
namespace Dw
noncomputable section
open PySem PySem.Spec PyProof.Rows L2
variable [Glo] [Tabs]
def starL : D → Option (List D)
  | .lst xs => some xs
  | .tup xs => some xs
  | _ => none
def starA (fa : SE) (fr : SA) : SA := fun env => bindEA (fa env) fun a env1 => match (pk a env1).bind starL with
  | some xs => mapA (fr env1) (xs.map RV.d ++ ·)
  | none => none
section
variable {K : PySem.W.Frag} {W : WX} {F F' : Hp} {R R' R2 : Fm} {σ : L2.St} {H H' : Hp} {env : Sl}
theorem heldAll_app : ∀ {vs : List V} {xs : List D} {ws : List V} {as : List RV}, RelAll K F vs xs → HeldAll K F R R' σ ws as → HeldAll K F R R' σ (vs ++ ws) (xs.map RV.d ++ as)
  | [], [], _, _, _, h => h
  | _ :: _, _ :: _, _, _, .cons a r, h => ⟨a, (fun _ e => by cases e), heldAll_app r h⟩
theorem vw_star {v : V} {x : D} {xs : List D} (e : Ex F H) (h : Vw K F H v x) (hs : starL x = some xs) : ∃ p vs, v = V.ref p ∧ (SqT K H p vs ∨ SqL K H p vs) ∧ RelAll K F vs xs := by
  cases x with
  | lst ys =>
    cases hs
    obtain ⟨p, vs, h1, h2, h3⟩ := h
    exact ⟨p, vs, h1, .inr h2, h3⟩
  | tup ys =>
    cases hs
    have h : Rel K F v (.tup xs) := h
    cases h with
    | tup s r => exact ⟨_, _, rfl, .inl (ex_t e s), r⟩
  | _ => cases hs
theorem dA_star {fa : SE} {fr : SA} {Q : List V → Hp → Prop} (h : dA K W (starA fa fr) σ H Q) : StX.tStar K (dE K W fa) (dA K W fr) σ H Q := by
  obtain ⟨env, F, R, r, S, e, p⟩ := h
  have e : bindEA (fa env) (fun a env1 => match (pk a env1).bind starL with
    | some xs => mapA (fr env1) (xs.map RV.d ++ ·)
    | none => none) = some r := e
  cases h1 : fa env with
  | none => rw [h1] at e; cases e
  | some q =>
    rw [h1] at e
    cases q with
    | ex x env1 =>
      cases e
      exact ⟨env, F, R, _, S, h1, p⟩
    | ok a env1 =>
      rw [bindEA_ok] at e
      cases hb : (pk a env1).bind starL with
      | none => rw [hb] at e; cases e
      | some xs =>
        rw [hb] at e
        rw [Option.bind_eq_some_iff] at hb
        obtain ⟨x, hx, hs⟩ := hb
        refine ⟨env, F, R, _, S, h1, fun v F1 H1 e1 S1 rv => ?_⟩
        obtain ⟨p0, us, ev, hq, hr⟩ := vw_star S1.sub (pk_vw S1 rv hx) hs
        refine ⟨p0, us, ev, hq, ?_⟩
        cases h2 : fr env1 with
        | none => rw [h2] at e; cases e
        | some q2 =>
          rw [h2] at e
          cases q2 with
          | ex x env2 =>
            cases e
            exact ⟨env1, F1, R, _, S1, h2, fun cls d F2 H2 e2 S2 hx => p cls d F2 H2 (e1.trans e2) S2 hx⟩
          | ok as env2 =>
            cases e
            refine ⟨env1, F1, R, _, S1, h2, fun vs F2 H2 R2 e2 eR2 S2 hvs => ?_⟩
            exact p (us ++ vs) F2 H2 R2 (e1.trans e2) eR2 S2 (heldAll_app (RelAll.up e2 hr) hvs)
end
section
variable {X : Cx} {W : WX} {e : Expr} {es : List Expr} {fa : SE} {fr : SA} {p : Pos}
theorem pa_dstar (ha : PE X e (dE X.K W fa)) (hr : PA X es (dA X.K W fr)) (hs : starEach (.Starred e p :: es) X.env = (true, eval e X.env) :: starEach es X.env := by rfl) : PA X (.Starred e p :: es) (dA X.K W (starA fa fr)) := (StX.pa_star ha hr hs).wk fun _ _ _ q => dA_star q
end
section
variable {env : Sl} {fa : SE} {fr : SA} {E : QX} {QA : List RV → Sl → Prop}
def wStar (a : RV) (env : Sl) (P : List D → Prop) : Prop := ∃ xs, (pk a env).bind starL = some xs ∧ P xs
theorem w_star (h : wE fa env (fun a e1 => wStar a e1 fun xs => wA fr e1 (fun as e2 => QA (xs.map RV.d ++ as) e2) E) E) : wA (starA fa fr) env QA E := wra_bind (wr_mono h (fun a e1 h => by
  obtain ⟨xs, h1, h2⟩ := h
  rw [h1]
  exact wra_map h2) fun _ _ h => h)
theorem w_star1 {a : RV} {x : D} {xs : List D} {P : List D → Prop} (h1 : pk a env = some x) (h2 : starL x = some xs) (q : P xs) : wStar a env P := ⟨xs, by rw [h1, Option.bind_some, h2], q⟩
theorem st_lst {xs : List D} : starL (.lst xs) = some xs := rfl
theorem st_tup {xs : List D} : starL (.tup xs) = some xs := rfl
theorem frzs_map {xs : List D} {as : List RV} {ys : List D} {env1 : Sl} (h : frzs as env = some (ys, env1)) : frzs (xs.map RV.d ++ as) env = some (xs ++ ys, env1) := by
  induction xs with
  | nil => exact h
  | cons x xs ih => exact frzs_cons frz_d ih
end
end
end Dw
namespace Dw
noncomputable section
open PySem PySem.Spec PyProof.Rows L2
variable [Glo] [Tabs]
def numL (i : Int) : List Nat := (PySem.Str.ofString (toString i)).cps.toList
def strC : List D → Option RV
  | [.int i] => if i.natAbs < 10 ^ 200 then some (.d (.str (numL i))) else none
  | _ => none
end
end Dw
namespace Dw
end Dw
namespace Dw
noncomputable section
open PySem PySem.Spec PyProof.Rows L2
variable [Glo] [Tabs]
/-- ys are the keys of ds -/
def Keys (m : List SV → Option FR) (ds ys : List D) : Prop := ys.length = ds.length ∧ ∀ (j : Nat) d y, ds[j]? = some d → ys[j]? = some y → m [.d d] = some (.ok (.d y) [.d d])
theorem Keys.uniq {m : List SV → Option FR} {ds ys zs : List D} (h : Keys m ds ys) (h' : Keys m ds zs) : ys = zs := by
  refine List.ext_getElem (h.1.trans h'.1.symm) fun j h1 h2 => ?_
  have h3 : j < ds.length := by rw [← h.1]; exact h1
  have a := h.2 j _ _ (List.getElem?_eq_getElem h3) (List.getElem?_eq_getElem h1)
  have b := h'.2 j _ _ (List.getElem?_eq_getElem h3) (List.getElem?_eq_getElem h2)
  rw [a] at b
  simpa using b
end
end Dw
namespace Dw
noncomputable section
open PySem PySem.Spec PyProof.Rows L2
variable [Glo] [Tabs]
def keyB : D → D → Bool
  | .int i, .int j => i == j
  | .str x, .str y => x == y
  | _, _ => false
def isK : D → Bool
  | .int _ => true
  | .str _ => true
  | _ => false
def keyOf : D → Option Key
  | .int i => some (.inl i)
  | .str x => some (.inr (mk x))
  | _ => none
theorem kD_of {d : D} {k : Key} (h : keyOf d = some k) : kD k = d := by
  cases d <;> cases h <;> rfl
theorem key_of' {d : D} (h : isK d = true) : ∃ k, keyOf d = some k := by
  cases d <;> first | (cases h; done) | exact ⟨_, rfl⟩
theorem keyB_dec (a b : Key) : keyB (kD a) (kD b) = decide (a = b) := by
  by_cases h : a = b
  · subst h
    rw [decide_eq_true rfl]
    cases a <;> simp [kD, keyB]
  · rw [decide_eq_false h]
    cases hk : keyB (kD a) (kD b) with
    | false => rfl
    | true =>
      refine absurd (kD_inj ?_) h
      cases a <;> cases b <;> simp [kD, keyB] at hk ⊢ <;> exact hk
/-- what stands at the key -/
def atD : List D → List D → D → Option D
  | k :: ks, v :: vs, x => if keyB k x = true then some v else atD ks vs x
  | _, _, _ => none
def setD : List D → List D → D → D → List D
  | k :: ks, v :: vs, x, y => (if keyB k x = true then y else v) :: setD ks vs x y
  | _, _, _, _ => []
def hasD (ks : List D) (x : D) : Bool := ks.any fun k => keyB k x
def putDk (ks : List D) (x : D) : List D := if hasD ks x = true then ks else ks ++ [x]
def putDv (ks vs : List D) (x y : D) : List D := if hasD ks x = true then setD ks vs x y else vs ++ [y]
section
variable {K : PySem.W.Frag} {F : Hp}
theorem at_val (k : Key) : ∀ (kvs : List (Key × V)) (vs : List D), RelAll K F (kvs.map (·.2)) vs →
    (atD (kvs.map fun e => kD e.1) vs (kD k) = none ∧ valV kvs k = none) ∨ ∃ d v, atD (kvs.map fun e => kD e.1) vs (kD k) = some d ∧ valV kvs k = some v ∧ Rel K F v d
  | [], vs, h => by cases h; exact .inl ⟨rfl, rfl⟩
  | p :: r, vs, h => by
    cases h with
    | @cons _ _ d ds a b =>
      by_cases e : p.1 = k
      · refine .inr ⟨d, p.2, ?_, valV_pos e, a⟩
        show (if keyB (kD p.1) (kD k) = true then some d else _) = _
        rw [keyB_dec, decide_eq_true e, if_pos rfl]
      · have h1 : atD ((p :: r).map fun e => kD e.1) (d :: ds) (kD k) = atD (r.map fun e => kD e.1) ds (kD k) := by
          show (if keyB (kD p.1) (kD k) = true then some d else _) = _
          rw [keyB_dec, decide_eq_false e, if_neg (by simp)]
        rw [h1, valV_neg e]
        exact at_val k r ds b
theorem has_any (k : Key) (kvs : List (Key × V)) : hasD (kvs.map fun e => kD e.1) (kD k) = kvs.any fun kv => decide (kv.1 = k) := by
  unfold hasD
  rw [List.any_map]
  congr 1
  funext e
  exact keyB_dec e.1 k
theorem set_val (k : Key) {y : V} {d : D} (hy : Rel K F y d) : ∀ (kvs : List (Key × V)) (vs : List D), RelAll K F (kvs.map (·.2)) vs →
    RelAll K F ((kvs.map fun kv => if kv.1 = k then (kv.1, y) else kv).map (·.2)) (setD (kvs.map fun e => kD e.1) vs (kD k) d)
  | [], vs, h => by cases h; exact .nil
  | p :: r, vs, h => by
    cases h with
    | @cons _ _ d0 ds a b =>
      show RelAll K F ((if p.1 = k then (p.1, y) else p).2 :: _) ((if keyB (kD p.1) (kD k) = true then d else d0) :: _)
      rw [keyB_dec]
      refine .cons ?_ (set_val k hy r ds b)
      by_cases e : p.1 = k
      · rw [if_pos e, decide_eq_true e, if_pos rfl]; exact hy
      · rw [if_neg e, decide_eq_false e, if_neg (by simp)]; exact a
theorem put_rel (k : Key) {y : V} {d : D} (hy : Rel K F y d) (kvs : List (Key × V)) (vs : List D) (h : RelAll K F (kvs.map (·.2)) vs) :
    ((putK kvs k y).map fun e => kD e.1) = putDk (kvs.map fun e => kD e.1) (kD k) ∧ RelAll K F ((putK kvs k y).map (·.2)) (putDv (kvs.map fun e => kD e.1) vs (kD k) d) := by
  unfold putK putDk putDv
  rw [has_any]
  by_cases c : (kvs.any fun kv => decide (kv.1 = k)) = true
  · simp only [if_pos c]
    refine ⟨?_, set_val k hy kvs vs h⟩
    rw [List.map_map]
    congr 1
    funext e
    show kD (if e.1 = k then (e.1, y) else e).1 = kD e.1
    by_cases e' : e.1 = k
    · rw [if_pos e']
    · rw [if_neg e']
  · simp only [if_neg c]
    refine ⟨by rw [List.map_append]; rfl, ?_⟩
    rw [List.map_append]
    exact h.app (.cons hy .nil)
end
def getK : D → D → Option RV
  | .dct ks vs, k => if isK k = true then (atD ks vs k).map .d else none
  | _, _ => none
def rGetK : R2 := fun x y H Q => ∃ a v, x = .ref a ∧ DGet H a y (some v) ∧ Q v H
theorem snd_getK {K : PySem.W.Frag} : Snd2 K getK rGetK := by
  intro W F R σ H env Q x y v w z S hx hy e p
  cases x with
  | dct ks vs =>
    obtain ⟨a, kvs, rfl, hs, rfl, r⟩ := hx
    have e : (if isK y = true then (atD (kvs.map fun e => kD e.1) vs y).map RV.d else none) = some z := e
    by_cases hk : isK y = true
    · rw [if_pos hk, Option.map_eq_some_iff] at e
      obtain ⟨d, h1, rfl⟩ := e
      obtain ⟨k, hk'⟩ := key_of' hk
      obtain rfl := kD_of hk'
      have : w = kV k := by
        cases k <;> (cases hy; rfl)
      subst this
      rcases at_val k kvs vs r with ⟨h2, _⟩ | ⟨d', u, h2, h3, ru⟩
      · rw [h2] at h1; cases h1
      · rw [h2] at h1
        cases h1
        exact ⟨a, u, rfl, by rw [← h3]; exact DGet.k hs, post_d S p ru⟩
    · rw [if_neg hk] at e; cases e
  | _ => cases e
section
variable {X : Cx} {W : WX} {a b : Expr} {fa fb : SE} {pos : Pos}
theorem pd_getK {k : Nat} (hr : Room k X.A) (ha : PE X a (dE X.K W fa)) (hb : PE X b (dE X.K W fb)) (hs : NoSl b := by exact fun _ _ => rfl) : PE X (.Subscript a b pos) (dE X.K W (two (op2 getK) fa fb)) :=
  (pe_dget (by have := hr.units; omega) ha hb hs).wk fun σ H Q q => dE_two q fun _ _ _ _ _ _ _ _ S h1 h2 h => op2_snd snd_getK S h1 h2 h
end
def ownK : Option SV → Option (Bool × List D × List D)
  | some (.own b (.dct ks vs)) => some (b, ks, vs)
  | _ => none
def setK (j : Nat) (fi fe : SE) : SS := fun env => bindS (fe env) fun a env1 => (frz a env1).bind fun p => (ownK p.2[j]?).bind fun _ => bindS (fi p.2) fun b env2 => (pk b env2).bind fun k => (ownK env2[j]?).bind fun o =>
  if isK k = true ∧ o.2.1.length ≤ 1000 then some (.nx (env2.set j (.own o.1 (.dct (putDk o.2.1 k) (putDv o.2.1 o.2.2 k p.1))))) else none
def newK : SE := fun env => some (.ok (.own (.dct [] [])) env)
end
end Dw
namespace Dw
noncomputable section
open PySem PySem.Spec PyProof.Rows L2
structure FnR (P : Program) (w : World) (K : PySem.W.Frag) (mg : Str → Option Value) (base : Heap) (CX : CXT) (k : Nat) (f : Addr) (fd : FuncData) (ps : List Str) (sp : Sp) : Prop where
  len : ∀ vs H Q E, sp vs H Q E → vs.length = ps.length
  run : ∀ (A : Around) (outer : List Env) (s : Shared) (H : Hp) (args : Args) (us : List Value) (vs : List V) (Q : VK) (E : XK), A.guards = some [] → Room k A → Env0 P w K mg base A outer s H → BindsTo s fd args (ps.zip us) → Vals vs us → sp vs H Q E →
    codeAny (model P w) A (.call (.ref f) args) (CR CX outer P w H s Q E) s
section
variable {P : Program} {w : World} {K : PySem.W.Frag} {mg : Str → Option Value} {base : Heap}
theorem FnR.imp {CX : CXT} {k : Nat} {f : Addr} {fd : FuncData} {ps : List Str} {sp sp' : Sp} (F : FnR P w K mg base CX k f fd ps sp) (h : ∀ vs H Q E, sp' vs H Q E → sp vs H Q E) : FnR P w K mg base CX k f fd ps sp' :=
  ⟨fun vs H Q E q => F.len vs H Q E (h _ _ _ _ q), fun A outer s H args us vs Q E hg hr he hb hv hs => F.run A outer s H args us vs Q E hg hr he hb hv (h _ _ _ _ hs)⟩
theorem FnR.mono {CX : CXT} {j k : Nat} {f : Addr} {fd : FuncData} {ps : List Str} {sp : Sp} (F : FnR P w K mg base CX j f fd ps sp) (h : j ≤ k) : FnR P w K mg base CX k f fd ps sp :=
  ⟨F.len, fun A outer s H args us vs Q E hg hr => F.run A outer s H args us vs Q E hg (hr.mono h)⟩
end
section
variable [Glo] [Tabs]
structure DefR (P : Program) (w : World) (K : PySem.W.Frag) (mg : Str → Option Value) (base : Heap) (k : Nat) (x : Str) (np : Nat) (m : List SV → Option FR) (dfs : List D) : Prop where
  ex : ∃ (f : Addr) (fd : FuncData) (ps : List Str) (ds : List Value) (dvs : List V), FnR P w K mg base CX0 k f fd ps (spD K np m) ∧ mg x = some (.ref f) ∧ PySem.W.keepIn K (.ref f) = true ∧ Binds K fd ps ds ∧ Vals dvs ds ∧ (∀ F : Hp, RelAll K F dvs dfs) ∧ ∀ as fr, m as = some fr → as.length = np
theorem DefR.mk0 {P : Program} {w : World} {K : PySem.W.Frag} {mg : Str → Option Value} {base : Heap} {k : Nat} {x : Str} {np n : Nat} {body : SS} {f : Addr} {fd : FuncData} {ps : List Str} (F : FnR P w K mg base CX0 k f fd ps (spD K np (defM np n body))) (hm : mg x = some (.ref f)) (hk : PySem.W.keepIn K (.ref f) = true) (hb : Binds K fd ps []) : DefR P w K mg base k x np (defM np n body) [] :=
  ⟨f, fd, ps, [], [], F, hm, hk, hb, .nil, fun _ => .nil, defM_len⟩
section
variable {P : Program} {w : World} {K : PySem.W.Frag} {mg : Str → Option Value} {base : Heap} {k : Nat} {f : Addr} {fd : FuncData} {ps : List Str} {np : Nat}
theorem fnR0 : FnR P w K mg base CX0 k f fd ps (spD K np fun _ => none) where
  len := fun vs H Q E h => (spD_no h).elim
  run := fun A outer s H args us vs Q E _ _ _ _ _ h => (spD_no h).elim
theorem DefR.self {x : Str} {n k0 : Nat} {r : Nat → List SV → Option FR} {B : (List SV → Option FR) → SS} (h0 : r 0 = fun _ => none) (hs : ∀ i, r (i + 1) = defM np n (B (r i)))
    (step : ∀ (k : Nat) (m : List SV → Option FR), k0 ≤ k → DefR P w K mg base k x np m [] → FnR P w K mg base CX0 (k + 1) f fd ps (spD K np (defM np n (B m)))) (hm : mg x = some (.ref f)) (hk : PySem.W.keepIn K (.ref f) = true) (hb : Binds K fd ps []) :
    ∀ i, DefR P w K mg base (k0 + i) x np (r i) []
  | 0 => by
    rw [h0]
    exact ⟨f, fd, ps, [], [], fnR0, hm, hk, hb, .nil, fun _ => .nil, fun _ _ e => by cases e⟩
  | i + 1 => by
    have C := DefR.self h0 hs step hm hk hb i
    have F := step (k0 + i) (r i) (Nat.le_add_right _ _) C
    rw [hs]
    exact DefR.mk0 F hm hk hb
end
end
end
end Dw
namespace Dw
end Dw
namespace Dw
end Dw
namespace Dw
noncomputable section
open PySem PySem.Spec PyProof.Rows L2
variable [Glo] [Tabs]
section
variable {env : Sl} {Q R : QE} {E : QX} {N B Ct : Sl → Prop} {fe fi : SE} {j : Nat}
theorem w_newK (q : Q (.own (.dct [] [])) env) : wE newK env Q E := q
theorem w_setK (h : wE fe env (fun u e1 => ∃ d e2 t ks vs, frz u e1 = some (d, e2) ∧ e2[j]? = some (.own t (.dct ks vs)) ∧ wE fi e2 (fun v e3 => ∃ k t' ks' vs' e4, pk v e3 = some k ∧ e3[j]? = some (.own t' (.dct ks' vs')) ∧ (isK k = true ∧ ks'.length ≤ 1000) ∧
    e3.set j (.own t' (.dct (putDk ks' k) (putDv ks' vs' k d))) = e4 ∧ N e4) E) E) : wS (setK j fi fe) env N ⟨R, B, Ct, E⟩ := wrs_bind (wr_mono h (fun u e1 h => by
  obtain ⟨d, e2, t, ks, vs, h1, h2, h3⟩ := h
  rw [h1, Option.bind_some]
  dsimp only
  rw [h2]
  show wrs (bindS (fi e2) _) _ _
  exact wrs_bind (wr_mono h3 (fun v e3 h => by
    obtain ⟨k, t', ks', vs', e4, g1, g2, g3, g4, g5⟩ := h
    rw [g1, Option.bind_some, g2]
    show wrs (if isK k = true ∧ ks'.length ≤ 1000 then some (Out.nx (e3.set j (.own t' (.dct (putDk ks' k) (putDv ks' vs' k d))))) else none) _ _
    rw [if_pos g3, g4]
    exact g5) fun _ _ h => h)) fun _ _ h => h)
end
end
end Dw
namespace Dw
end Dw
namespace Dw
noncomputable section
open PySem PySem.Spec PyProof.Rows L2
variable [Glo] [Tabs]
def dispE (cs : List (List Nat × Int)) : SE := fun env => some (.ok (.own (.dct (cs.map fun c => .str c.1) (cs.map fun c => .int c.2))) env)
end
end Dw
namespace Dw
noncomputable section
open PySem PySem.Spec PyProof.Rows L2
variable [Glo] [Tabs]
section
variable {K : PySem.W.Frag} {W : WX} {F F' : Hp} {R R' : Fm} {σ : L2.St} {H H' : Hp} {env : Sl} {Q : VK}
theorem Sta.push (S : Sta K F R σ H env) {v : V} {c : C} (h : RvOk K F R σ H env v (.own c)) : Sta K F R (σ ++ [some v]) H (env ++ [.own false c]) := by
  obtain ⟨p, o, rfl, e2, e3, e4, e5, e6⟩ := h
  have at' : ∀ {i : Nat} {s : SV}, (env ++ [SV.own false c])[i]? = some s → (i < env.length ∧ env[i]? = some s ∧ (σ ++ [some (V.ref p)])[i]? = σ[i]?) ∨ (i = env.length ∧ s = .own false c ∧ (σ ++ [some (V.ref p)])[i]? = some (some (.ref p))) := fun {i s} h => by
    by_cases hi : i < env.length
    · rw [List.getElem?_append_left hi] at h
      exact .inl ⟨hi, h, List.getElem?_append_left (by rw [S.len]; exact hi)⟩
    · rw [List.getElem?_append_right (by omega)] at h
      have : i - env.length = 0 := by
        by_cases z : i - env.length = 0
        · exact z
        · rw [List.getElem?_eq_none (by simp; omega)] at h
          cases h
      rw [this] at h
      have hi2 : i = env.length := by omega
      subst hi2
      exact .inr ⟨rfl, (Option.some.inj h).symm, by rw [← S.len, List.getElem?_append_right (Nat.le_refl _), Nat.sub_self]; rfl⟩
  refine ⟨S.sub, S.fr, S.dis, by rw [List.length_append, List.length_append, S.len]; rfl, fun i x q => ?_, fun i b c' q => ?_, fun i c' q => ?_, fun i j bi ci bj cj a h1 h2 h3 h4 => ?_, fun i x q => ?_, S.tab⟩
  · rcases at' q with ⟨_, h, e⟩ | ⟨_, h, _⟩
    · rw [e]; exact S.dat i x h
    · cases h
  · rcases at' q with ⟨_, h, e⟩ | ⟨_, h, e⟩
    · rw [e]; exact S.own i b c' h
    · cases h
      exact ⟨p, o, e, e2, e3, e4, e5⟩
  · rcases at' q with ⟨_, h, e⟩ | ⟨_, h, _⟩
    · rw [e]; exact S.tag i c' h
    · cases h
  · rcases at' h1 with ⟨_, g1, k1⟩ | ⟨r1, _, k1⟩ <;> rcases at' h2 with ⟨_, g2, k2⟩ | ⟨r2, _, k2⟩
    · rw [k1] at h3
      rw [k2] at h4
      exact S.inj i j _ _ _ _ a g1 g2 h3 h4
    · rw [k1] at h3
      rw [k2] at h4
      cases h4
      exact absurd h3 (e6 i _ _ g1)
    · rw [k1] at h3
      rw [k2] at h4
      cases h3
      exact absurd h4 (e6 j _ _ g2)
    · rw [r1, r2]
  · rcases at' q with ⟨_, h, e⟩ | ⟨_, h, _⟩
    · rw [e]; exact S.xn i x h
    · cases h
end
end
end Dw
namespace Dw
noncomputable section
open PySem PySem.Spec PyProof.Rows L2
variable [Glo] [Tabs]
theorem w_dispE {cs : List (List Nat × Int)} {env : Sl} {Q : QE} {E : QX} (q : Q (.own (.dct (cs.map fun c => .str c.1) (cs.map fun c => .int c.2))) env) : wE (dispE cs) env Q E := q
theorem pk_cvK {env : Sl} {i : Nat} {t : Bool} {ks vs : List D} (h : env[i]? = some (.own t (.dct ks vs))) : pk (.cv i) env = some (.dct ks vs) := by unfold pk; dsimp only; rw [h]; rfl
theorem pk_ownK {env : Sl} {ks vs : List D} : pk (.own (.dct ks vs)) env = some (.dct ks vs) := rfl
theorem frz_ownK {env : Sl} {ks vs : List D} : frz (.own (.dct ks vs)) env = some (.dct ks vs, env) := rfl
theorem frz_cvK {env env1 : Sl} {i : Nat} {ks vs : List D} (h : env[i]? = some (.own false (.dct ks vs))) (h2 : env.set i (.d (.dct ks vs)) = env1) : frz (.cv i) env = some (.dct ks vs, env1) := by subst h2; unfold frz; dsimp only; rw [h]; rfl
end
end Dw
namespace Dw
end Dw
namespace Dw
end Dw
namespace Dw
noncomputable section
open PySem PySem.Spec PyProof.Rows L2 LamX NdefX
variable [Glo] [Tabs]
/-- the lambda's value at d, the captured things cs; frozen -/
def lamV (fe : SE) (cs : List D) (d : D) : Option D := match fe (.d d :: cs.map .d) with
  | some (.ok a e) => (frz a e).map (·.1)
  | _ => none
end
end Dw
namespace Dw
end Dw
namespace Dw
noncomputable section
open PySem PySem.Spec PyProof.Rows L2 LamX NdefX
variable [Glo] [Tabs]
def KeysL (fe : SE) (cs ds ys : List D) : Prop := ys.length = ds.length ∧ ∀ (j : Nat) d y, ds[j]? = some d → ys[j]? = some y → lamV fe cs d = some y
theorem KeysL.uniq {fe : SE} {cs ds ys zs : List D} (h : KeysL fe cs ds ys) (h' : KeysL fe cs ds zs) : ys = zs := by
  refine List.ext_getElem (h.1.trans h'.1.symm) fun j h1 h2 => ?_
  have h3 : j < ds.length := by rw [← h.1]; exact h1
  have a := h.2 j _ _ (List.getElem?_eq_getElem h3) (List.getElem?_eq_getElem h1)
  have b := h'.2 j _ _ (List.getElem?_eq_getElem h3) (List.getElem?_eq_getElem h2)
  rw [a] at b
  simpa using b
end
end Dw
namespace Dw
noncomputable section
open PySem PySem.Spec PyProof.Rows L2
theorem wipe_at : ∀ (vs : List Nat) (σ : L2.St) (k : Nat), k ∈ vs → k < σ.length → (wipe σ vs)[k]? = some none
  | i :: is, σ, k, h, hl => by
    unfold wipe
    by_cases hk : k = i
    · subst hk
      rw [List.getElem?_set_self (by rw [wipe_length]; exact hl)]
    · rw [List.getElem?_set_ne (Ne.symm hk)]
      exact wipe_at is σ k ((List.mem_cons.mp h).resolve_left hk) hl
/-- names forgotten twice -/
theorem wipe_wipe {σ : L2.St} {us vs : List Nat} (h : ∀ i ∈ us, i ∈ vs) : wipe (wipe σ us) vs = wipe σ vs := by
  apply List.ext_getElem?
  intro k
  by_cases hk : k ∈ vs
  · by_cases hl : k < σ.length
    · rw [wipe_at vs _ k hk (by rw [wipe_length]; exact hl), wipe_at vs _ k hk hl]
    · rw [List.getElem?_eq_none (by rw [wipe_length, wipe_length]; omega), List.getElem?_eq_none (by rw [wipe_length]; omega)]
  · rw [wipe_out hk, wipe_out hk, wipe_out fun z => hk (h k z)]
/-- what follows clause d's tests: the next clause, or what the innermost does; then k -/
def goOn (e : Expr) (gens : List Comprehension) (emit : Sem Unit) (acc : Value) (env : Env) (d : Nat) (k : Sem Fin) : Sem Fin :=
  match gens[d]? with
  | some g => eval g.iter env >>= fun x => standAt g.iter.pos >>= fun _ => foldedSetIterable g.iter env x >>= fun x => holding [x] (pyIter x) >>= fun it => runOwn (.compStart e d it acc env) env >>= fun _ => k
  | none => emit >>= fun _ => k
/-- the comprehension e with these clauses: a turn of clause d -/
structure CompOf (e : Expr) (gens : List Comprehension) (emit : Env → Sem Unit) (acc : Value) : Prop where
  cl : clausesOf e = gens
  quiet : ∀ d it env, (Code.compLoop e d it acc env).quiet = true
  under : ∀ A d it env, Around.under A (.compLoop e d it acc env) = A ∧ Around.under A (.compStart e d it acc env) = A
  den : ∀ P w d it env, (model P w).den (.compLoop e d it acc env) = (compTurn e d it acc env).onRaise (fun x => do noteFrame x env; theTreesLotGoes x)
  denS : ∀ P w d it env, (model P w).den (.compStart e d it acc env) = (compStart e d it acc env).onRaise (fun x => do noteFrame x env; standAt theWindowsPlace)
  turn : ∀ d it env g, gens[d]? = some g → g.is_async = 0 → (∀ g', gens[d + 1]? = some g' → g'.is_async = 0) → compTurn e d it acc env = (standAt g.iter.pos >>= fun _ => pyNext it >>= fun r => match r with
      | none => pure (.done .next)
      | some v => letOwnedTupleGo g.target it v >>= fun _ => assign g.target env v >>= fun _ => (forIn g.ifs true fun c r => if r = true then do let ok ← isTrue c env (eval c env); pure (ForInStep.yield ok) else pure (ForInStep.yield r)) >>= fun ok =>
        if ok = true then goOn e gens (emit env) acc env (d + 1) (again (.compLoop e d it acc env)) else again (.compLoop e d it acc env))
theorem compOf_list {elt : Expr} {gens : List Comprehension} {scope : Scope} {pos : Pos} {acc : Value} : CompOf (.ListComp elt gens scope pos) gens (fun env => eval elt env >>= fun v => call (.builtin "list.append") [acc, v] >>= fun _ => pure ()) acc := by
  refine ⟨rfl, fun _ _ _ => rfl, fun _ _ _ _ => ⟨rfl, rfl⟩, fun _ _ _ _ _ => rfl, fun _ _ _ _ _ => rfl, fun d it env g h0 ha hb => ?_⟩
  obtain ⟨t, i, ifs, z⟩ := g
  have ha : z = 0 := ha
  subst ha
  unfold compTurn goOn
  cases h1 : gens[d + 1]? with
  | none => simp only [h0, h1]; rfl
  | some g' =>
    obtain ⟨t', i', ifs', z'⟩ := g'
    have hb : z' = 0 := hb _ h1
    subst hb
    simp only [h0, h1]
    rfl
theorem compOf_dict {kx vx : Expr} {gens : List Comprehension} {scope : Scope} {pos : Pos} {D : Addr} : CompOf (.DictComp kx vx gens scope pos) gens
    (fun env => eval kx env >>= fun kv => holding [kv] (eval vx env) >>= fun vv => standAt { kx.pos with endLine := vx.pos.endLine, endCol := vx.pos.endCol } >>= fun _ => holding [kv, vv] (dictSet D kv vv)) (.ref D) := by
  refine ⟨rfl, fun _ _ _ => rfl, fun _ _ _ _ => ⟨rfl, rfl⟩, fun _ _ _ _ _ => rfl, fun _ _ _ _ _ => rfl, fun d it env g h0 ha hb => ?_⟩
  obtain ⟨t, i, ifs, z⟩ := g
  have ha : z = 0 := ha
  subst ha
  unfold compTurn goOn
  cases h1 : gens[d + 1]? with
  | none => simp only [h0, h1]; rfl
  | some g' =>
    obtain ⟨t', i', ifs', z'⟩ := g'
    have hb : z' = 0 := hb _ h1
    subst hb
    simp only [h0, h1]
    rfl
section
variable {prog : Program} {w : World} {A : Around} {R : Result → Shared → Prop} {s : Shared} {e : Expr} {gens : List Comprehension} {emit : Env → Sem Unit} {acc it : Value} {env : Env} {d : Nat} {g : Comprehension}
theorem start_any (C : CompOf e gens emit acc) (hg : gens[d]? = some g) (ha : g.is_async = 0) (h0 : codeAny (model prog w) A (.compLoop e d it acc env) R s)
    (h : wpAny (model prog w) A (pyIter it) (fun it' s' => codeAny (model prog w) A (.compLoop e d it' acc env) R s') (fun _ _ => False) s) : codeAny (model prog w) A (.compStart e d it acc env) R s := by
  refine codeAny_of_tree ?_
  rw [(C.under A d it env).2, C.denS]
  refine wpAny_notedAt ?_
  unfold compStart
  rw [C.cl, hg]
  have hz : (Option.elim (some g) false fun x => x.is_async != 0) = false := by simp [ha]
  rw [if_neg (by rw [hz]; exact Bool.false_ne_true)]
  refine wpAny_bind (wpAny_askSetting (wpAny_ite ?_))
  have h' : wpAny (model prog w) A (pyIter it) (fun it' s' => codeAny (model prog w) A (.compLoop e d it' acc env) R s') (notedBy (model prog w) A env fun x s' => R (.error x) s') s := wpAny_mono h (fun _ _ z => z) fun _ _ z => z.elim
  split
  · first
      | exact wpAny_bind (wpAny_pure (wpAny_pure ⟨C.quiet _ _ _, h0⟩))
      | exact wpAny_pure ⟨C.quiet _ _ _, h0⟩
  · refine wpAny_bind (wpAny_rule ?_)
    show wpAny _ _ (standAt g.iter.pos >>= _) _ _ s
    exact wpAny_bind (wpAny_standAt (wpAny_bind (wpAny_mono h' (fun it' s' z => wpAny_pure ⟨C.quiet _ _ _, z⟩) fun _ _ z => z)))
/-- clause d's loop: B what is to be reached behind the tests, from which the invariant comes back -/
theorem loop_any (C : CompOf e gens emit acc) (hg : gens[d]? = some g) (ha : ∀ g ∈ gens, g.is_async = 0) (I : Nat → Shared → Prop)
    (turn : ∀ n s, I n s → wpAny (model prog w) A (pyNext it) (fun r s1 => match r with
      | none => R (.ok .next) s1
      | some v => wpAny (model prog w) A (letOwnedTupleGo g.target it v) (fun _ s2 => wpAny (model prog w) A (assign g.target env v) (fun _ s3 =>
          wpAny (model prog w) A (forIn g.ifs true fun c r => if r = true then do let ok ← isTrue c env (eval c env); pure (ForInStep.yield ok) else pure (ForInStep.yield r)) (fun ok s4 =>
            if ok = true then ∀ (k : Sem Fin) Q E, (∀ s', (∃ m, m < n ∧ I m s') → wpAny (model prog w) A k Q E s') → wpAny (model prog w) A (goOn e gens (emit env) acc env (d + 1) k) Q E s4 else ∃ m, m < n ∧ I m s4) (fun _ _ => False) s3) (fun _ _ => False) s2) (fun _ _ => False) s1) (fun _ _ => False) s)
    (n : Nat) (h : I n s) : codeAny (model prog w) A (.compLoop e d it acc env) R s := by
  refine codeAny_loop (C.quiet _ _ _) I (fun n s hI => ?_) n h
  rw [(C.under A d it env).1, C.den]
  refine wpAny_noted ?_
  rw [C.turn d it env g hg (ha g (List.mem_of_getElem? hg)) fun g' h' => ha g' (List.mem_of_getElem? h')]
  have no : ∀ {E : Value → Shared → Prop} (x : Value) (s : Shared), False → E x s := fun _ _ z => z.elim
  refine wpAny_bind (wpAny_standAt (wpAny_bind (wpAny_mono (turn n s hI) (fun r s1 h1 => ?_) no)))
  cases r with
  | none => exact wpAny_pure h1
  | some v =>
    refine wpAny_bind (wpAny_mono h1 (fun _ s2 h2 => wpAny_bind (wpAny_mono h2 (fun _ s3 h3 => wpAny_bind (wpAny_mono h3 (fun ok s4 h4 => ?_) no)) no)) no)
    cases ok with
    | false => exact wpAny_pure ⟨rfl, h4⟩
    | true =>
      simp only [if_true] at h4 ⊢
      exact h4 _ _ _ fun s' hm => wpAny_pure ⟨rfl, hm⟩
end
structure Cls where
  tg : Expr
  iter : Expr
  ifs : List Expr
  wi : TI
  g : TG
  tt : TT
  vs : List Nat
def Cls.c (c : Cls) : Comprehension := ⟨c.tg, c.iter, c.ifs, 0⟩
structure Cls.In (X : Cx) (c : Cls) : Prop where
  pg : PG X c.tg c.g
  pt : PTs X c.ifs c.tt
structure Cls.On (X : Cx) (c : Cls) : Prop where
  pi : PI X c.tg c.iter c.wi
  fs : ∀ x, foldedSetIterable c.iter X.env x = pure x
  i : c.In X
abbrev TB := L2.St → Hp → (Hp → Prop) → Prop
/-- the turns over J, each with its body; N what is to hold behind the last -/
def tTurns (J : It) (g : TG) (tt : TT) (vs : List Nat) (body : TB) : TB := fun σ H1 N => ∃ W : Nat → Nat → Hp → Prop, (∃ m, W 0 m H1) ∧ ∀ i m H, W i m H →
  (J.stop i H ∧ N H) ∨ (J.go i H ∧ ∃ N1 : Hp → Prop, (∀ H', N1 H' → ∃ m', m' < m ∧ W (i + 1) m' H') ∧ ∀ x H', J.yld i H x H' → g x (wipe σ vs) H' fun σ2 H2 => wipe σ2 vs = wipe σ vs ∧ tt σ2 H2 fun b H3 => if b = true then body σ2 H3 N1 else N1 H3)
def tCls (te : TB) : List Cls → TB
  | [] => te
  | c :: cs => fun σ H N => c.wi σ H fun J H1 => tTurns J c.g c.tt c.vs (tCls te cs) σ H1 N
def vsOf : List Cls → List Nat
  | [] => []
  | c :: _ => c.vs
def Chain : List Cls → Prop
  | [] => True
  | c :: cs => (∀ i ∈ vsOf cs, i ∈ c.vs) ∧ Chain cs
def PEm (X : Cx) (emit : Sem Unit) (te : TB) : Prop := ∀ pins s σ H N, Inv X pins σ H s → te σ H N → wpAny (model X.prog X.w) X.A emit (fun _ s' => ∃ H', Inv X pins σ H' s' ∧ N H') (fun _ _ => False) s
/-- slots that know as much as before but for vs -/
def Kept (σ σ' : L2.St) (vs : List Nat) : Prop := σ'.length = σ.length ∧ ∀ (j : Nat) v, j ∉ vs → σ[j]? = some (some v) → σ'[j]? = some (some v)
/-- what follows a clause's tests, promised -/
def PGo (X : Cx) (e : Expr) (gens : List Comprehension) (emit : Env → Sem Unit) (acc : Value) (d : Nat) (body : TB) (vs : List Nat) : Prop := ∀ pins s σ H N, Inv X pins σ H s → body σ H N → ∀ (k : Sem Fin) Q E,
  (∀ s' σ' H', Inv X pins σ' H' s' → Kept σ σ' vs → N H' → wpAny (model X.prog X.w) X.A k Q E s') → wpAny (model X.prog X.w) X.A (goOn e gens (emit X.env) acc X.env d k) Q E s
section
variable {B : Cx} {e : Expr} {gens : List Comprehension} {emit : Env → Sem Unit} {acc : Value} {d : Nat}
theorem turns_any (C : CompOf e gens emit acc) (ha : ∀ g ∈ gens, g.is_async = 0) (hc : B.calm = true) (hx : B.xe = fun _ _ => False) {c : Cls} (hg : gens[d]? = some c.c) (ci : c.In B) {body : TB} {vs1 : List Nat} (hv : ∀ i ∈ vs1, i ∈ c.vs) (hb : PGo B e gens emit acc (d + 1) body vs1)
    {pins : List (Addr × Obj)} {s : Shared} {σ : L2.St} {H : Hp} {it : Addr} {fp : List Addr} {tn : Nat → Heap → Prop} {J : It} {N : Hp → Prop} (I : Inv B pins σ H s) (T : Turn B.prog B.w B.K c.tg J fp it tn) (st : tn 0 s.heap) (f : ∀ b ∈ fp, FpOk B pins H b) (h : tTurns J c.g c.tt c.vs body σ H N) :
    codeAny (model B.prog B.w) B.A (.compLoop e d (.ref it) acc B.env) (fun r s' => r = .ok .next ∧ ∃ H', Inv B pins (wipe σ c.vs) H' s' ∧ N H') s := by
  obtain ⟨W, ⟨m0, w0⟩, turn⟩ := h
  have stat : ∀ {H' : Hp}, (∀ b ∈ fp, H' b = none) → ∀ b ∈ fp, FpOk B pins H' b := fun hn b hb => ⟨hn b hb, (f b hb).2⟩
  refine loop_any C hg ha (fun n s' => ∃ i H', Inv B pins (wipe σ c.vs) H' s' ∧ tn i s'.heap ∧ (∀ b ∈ fp, H' b = none) ∧ W i n H') ?_ m0 ⟨0, H, I.weak (wipe_length _ _) (fun j v z => (wipe_some z).1), st, fun b hb => (f b hb).1, w0⟩
  rintro n s5 ⟨i, H5, I5, st5, n5, w5⟩
  rcases turn i n H5 w5 with ⟨stop, q⟩ | ⟨go, N1, hN, step⟩
  · refine thnF (T.done B rfl rfl rfl hc i pins s5 _ H5 (fun _ _ => False) I5 (stat n5) st5 stop) fun r s6 ⟨hr, I6⟩ => ?_
    subst hr
    exact ⟨rfl, H5, I6, q⟩
  · refine thnF (T.item B rfl rfl rfl hc i pins s5 _ H5 (fun _ _ => False) I5 (stat n5) st5 go) fun r s6 ⟨u, hr, h6⟩ => ?_
    subst hr
    refine thnF h6 fun _ s7 ⟨x, H7, I7, r7, y7, st7, n7⟩ => ?_
    have I7' := I7.pinned (stat n7) (T.obj _ _ st7)
    have hxe : ∀ {α : Type} {t : Sem α} {Q : α → Shared → Prop} {s : Shared}, wpAny (model B.prog B.w) B.A t Q B.xe s → wpAny (model B.prog B.w) B.A t Q (fun _ _ => False) s := fun z => by rw [hx] at z; exact z
    refine thnF (hxe (ci.pg.run _ s7 _ H7 x u _ I7' r7 (step x H7 y7))) fun _ s8 ⟨σ8, H8, I8, hw8, q8⟩ => ?_
    refine thnF (hxe (ci.pt.run _ s8 σ8 H8 _ I8 q8)) fun b s9 ⟨H9, I9, q9⟩ => ?_
    have fin : ∀ {s' : Shared} {σ' : L2.St} {H' : Hp}, Inv B (pins ++ pinsAt fp s7.heap) σ' H' s' → Kept σ8 σ' vs1 → N1 H' → ∃ m, m < n ∧ ∃ i H', Inv B pins (wipe σ c.vs) H' s' ∧ tn i s'.heap ∧ (∀ b ∈ fp, H' b = none) ∧ W i m H' := fun {s' σ' H'} I' kp nx => by
      obtain ⟨m', hm, w'⟩ := hN H' nx
      have pin' : ∀ b ∈ fp, ∀ o, s7.heap.get? b = some o → s'.heap.get? b = some o ∧ H' b = none := fun b hb o z =>
        let y := I'.pin (b, o) (List.mem_append_right _ (List.mem_append_right _ (mem_pinsAt hb z)))
        ⟨y.1, y.2.1⟩
      refine ⟨m', hm, i + 1, H', I'.unpinned.weak (by rw [kp.1, ← hw8, wipe_length]) (fun j v z => ?_), T.keep _ _ _ st7 fun b hb o z => (pin' b hb o z).1, fun b hb => ?_, w'⟩
      · rw [← hw8] at z
        obtain ⟨z1, z2⟩ := wipe_some z
        exact kp.2 j v (fun m => z2 (hv j m)) z1
      · obtain ⟨o, z, _⟩ := T.obj _ _ st7 b hb
        exact (pin' b hb o z).2
    cases b with
    | false =>
      simp only [Bool.false_eq_true, if_false] at q9 ⊢
      exact fin I9 ⟨rfl, fun _ _ _ z => z⟩ q9
    | true =>
      simp only [if_true] at q9 ⊢
      exact fun k Q E hk => hb _ s9 σ8 H9 N1 I9 q9 k Q E fun s' σ' H' I' kp nx => hk s' (fin I' kp nx)
theorem clauses_go (C : CompOf e gens emit acc) (ha : ∀ g ∈ gens, g.is_async = 0) (hc : B.calm = true) (hx : B.xe = fun _ _ => False) {te : TB} (he : PEm B (emit B.env) te) : ∀ (cs : List Cls) (d : Nat), gens.drop d = cs.map Cls.c → (∀ c ∈ cs, c.On B) → Chain cs → PGo B e gens emit acc d (tCls te cs) (vsOf cs)
  | [], d, hd, _, _ => fun pins s σ H N I h k Q E hk => by
    have hn : gens[d]? = none := by
      have : gens.length ≤ d := by simpa using hd
      exact List.getElem?_eq_none this
    unfold goOn
    rw [hn]
    exact wpAny_bind (wpAny_mono (he pins s σ H N I h) (fun _ s' ⟨H', I', nx⟩ => hk s' σ H' I' ⟨rfl, fun _ _ _ z => z⟩ nx) fun _ _ z => z.elim)
  | c :: cs, d, hd, hi, hch => fun pins s σ H N I h k Q E hk => by
    have hg : gens[d]? = some c.c := by
      have := congrArg List.head? hd
      rw [List.head?_drop] at this
      exact this
    have hd' : gens.drop (d + 1) = cs.map Cls.c := by
      have := congrArg List.tail hd
      rw [List.tail_drop] at this
      exact this
    have ih := clauses_go C ha hc hx he cs (d + 1) hd' (fun c' h' => hi c' (List.mem_cons_of_mem _ h')) hch.2
    have on := hi c List.mem_cons_self
    have hxe : ∀ {α : Type} {t : Sem α} {Q : α → Shared → Prop} {E : Value → Shared → Prop} {s : Shared}, wpAny (model B.prog B.w) B.A t Q B.xe s → wpAny (model B.prog B.w) B.A t Q E s := fun z => by rw [hx] at z; exact wpAny_mono z (fun _ _ q => q) fun _ _ q => q.elim
    unfold goOn
    rw [hg]
    refine wpAny_bind (hxe (thn (on.pi.run pins s σ H _ I h) fun xv s1 h1 => ?_))
    refine wpAny_bind (wpAny_standAt (wpAny_bind (wpAny_of_eq (on.fs xv) (wpAny_bind (wpAny_holding (hxe (thn h1 fun itv s2 h2 => ?_)))))))
    obtain ⟨it, fp, tn, J, H2, e2, I2, T, st2, f2, q2⟩ := h2
    subst e2
    refine wpAny_bind (wpAny_runOwn (h := none) ?_)
    rw [Around.mark_none]
    have lp := turns_any C ha hc hx hg on.i hch.1 ih I2 T st2 f2 q2
    refine codeAny_mono (start_any C hg rfl lp (T.self B.A 0 _ _ _ st2 lp)) fun r s' hr => ?_
    obtain ⟨rfl, H', I', nx⟩ := hr
    exact hk s' _ H' I' ⟨wipe_length _ _, fun j v hj z => by rw [show vsOf (c :: cs) = c.vs from rfl] at hj; rw [wipe_out hj]; exact z⟩ nx
end
/-- a comprehension's question: o0 what the new thing is at first -/
def tCmp (o0 : Addr → HO) (te : Addr → TB) (c0 : Cls) (cs : List Cls) : TE := fun σ H Q => c0.wi σ H fun J H1 => ∀ D, H1 D = none → tTurns J c0.g c0.tt c0.vs (tCls (te D) cs) σ (upd H1 D (o0 D)) (Q (.ref D))
/-- a new thing of this kind -/
structure NewOf (newAcc : Sem Value) (ob : Obj) (o0 : Addr → HO) : Prop where
  run : ∀ {P : Program} {w : World} {A : Around} {E : Value → Shared → Prop} {s : Shared} {Q : Value → Shared → Prop}, Q (.ref s.heap.objs.size) { s with heap := s.heap.push ob } → wpAny (model P w) A newAcc Q E s
  ok : ∀ {P : Program} {w : World} {H : Hp} {h : Heap}, sysModules < h.objs.size → ObjOk P w H (h.push ob) h.objs.size (o0 h.objs.size)
theorem newOf_list : NewOf (newList []) { cls := .type "list", data := .seq ([] : List Value).toArray } (fun _ => .lst []) := ⟨fun h => wpAny_newObj_type h (by show 0 ≤ sizeLine; decide), fun {P w H h} _ => ⟨Nat.zero_le _, [], 0, .nil, Heap.get?_push_size _ rfl⟩⟩
theorem newOf_dK : NewOf newDict { cls := .type "dict", data := .dict #[] } (fun _ => .dK []) := ⟨fun h => wpAny_newObj_type h, fun {P w H h} hb => dk_empty h hb⟩
/-- in every block of this comprehension -/
def InBlk (X : Cx) (scope : Scope) (p : Cx → Prop) : Prop := ∀ (s : Shared) (H : Hp) (C : Addr) (cl : List (Str × Addr)) (fp : List Addr), p (X.blk s H scope (compEnvC scope cl C X.env) fp)
section
variable {X : Cx}
theorem comp_core {pins : List (Addr × Obj)} {s : Shared} {σ : L2.St} {H : Hp} {Q : VK} {e : Expr} {scope : Scope} {own : List (Str × Nat)} {pos' : Pos} {c0 : Cls} {cs : List Cls} {emit : Value → Env → Sem Unit} {te : Addr → TB} {newAcc : Sem Value} {ob : Obj} {o0 : Addr → HO} {use : Option (Value → Sem Unit)} {Qf : Value → Shared → Prop}
    (hc : X.calm = true) (hN : X.N.Nodup) (I : Inv X pins σ H s) (hC : ∀ D, CompOf e ((c0 :: cs).map Cls.c) (emit (.ref D)) (.ref D)) (hi : PI X c0.tg c0.iter c0.wi) (hs : ∀ x, foldedSetIterable c0.iter X.env x = pure x) (ok : BlkOk X.N X.env.scope scope own) (hv : c0.vs = own.map (·.2)) (hch : Chain (c0 :: cs))
    (h0 : InBlk X scope c0.In) (h1 : InBlk X scope fun B => ∀ c ∈ cs, c.On B) (he : InBlk X scope fun B => ∀ D, PEm B (emit (.ref D) B.env) (te D)) (hn : NewOf newAcc ob o0) (h : tCmp o0 te c0 cs σ H Q)
    (hRR : ∀ D C s' m H', Inv X pins σ H' s' → Q (.ref D) H' → s'.heap.Ns C m → FpOk X pins H' C → compPost (model X.prog X.w) X.A X.xe use Qf (.ref D) C (.ok .next) s') :
    wpAny (model X.prog X.w) X.A (comprehension e scope X.env pos' newAcc false (eval c0.iter X.env) use) Qf X.xe s := by
  have hfree : ∀ y ∈ scope.names, y.2 = .free → ∃ c, X.env.cells.lookup y.1 = some c := fun y hy z => by
    rcases ok.free y hy z with k | k
    · exact I.ok.has _ (.inl k)
    · exact I.ok.has _ (.inr k)
  refine wpAny_comprehension_free (use := use) (hC 0).cl hs (closure_ok hfree) ok.kind (fun y hy z => by rw [ok.uniq y hy, z]) (thn (hi.run pins s σ H _ I h) fun xv s1 hx => thn hx fun itv s2 h2 => ?_)
  obtain ⟨it, fp, tn, J, H2, e2, I2, T, st2, f2, q⟩ := h2
  subst e2
  refine hn.run (newEnv_comp ?_)
  have nD : H2 s2.heap.objs.size = none := I2.hok.fresh (Nat.le_refl _)
  have turns := q s2.heap.objs.size nD
  have C := hC s2.heap.objs.size
  have em := he
  generalize hD : s2.heap.objs.size = D at nD turns C
  generalize hs3 : ({ s2 with heap := s2.heap.push ob } : Shared) = s3
  have I3 : Inv X pins σ (upd H2 D (o0 D)) s3 := by
    rw [← hs3]
    refine I2.laid (t' := s2.toks) (fun b o z => Heap.get?_push_of_some _ z) (Nat.le_of_eq hD) ?_
    rw [← hD]
    exact hn.ok I2.big
  have eh : s3.heap = s2.heap.push ob := by rw [← hs3]
  have f3 : ∀ b ∈ fp, FpOk X pins (upd H2 D (o0 D)) b ∧ b < s3.heap.objs.size := fun b hb => by
    obtain ⟨o, z, _⟩ := T.obj _ _ st2 b hb
    have hl := Heap.lt_size z
    exact ⟨⟨by rw [upd_ne (by rw [← hD]; exact Nat.ne_of_lt hl)]; exact (f2 b hb).1, (f2 b hb).2⟩, by rw [eh, Heap.size_push]; exact Nat.lt_succ_of_lt hl⟩
  have st3 : tn 0 s3.heap := T.keep _ _ _ st2 fun b _ o z => by rw [eh]; exact Heap.get?_push_of_some _ z
  have I4 := block_start I3 ok hN f3
  have b0 := h0 s3 (upd H2 D (o0 D)) s3.heap.objs.size (cellsFrom (s3.heap.objs.size + 1) scope.names (cloFrom X.env.cells scope.names [])) fp
  have b1 := h1 s3 (upd H2 D (o0 D)) s3.heap.objs.size (cellsFrom (s3.heap.objs.size + 1) scope.names (cloFrom X.env.cells scope.names [])) fp
  have b2 := he s3 (upd H2 D (o0 D)) s3.heap.objs.size (cellsFrom (s3.heap.objs.size + 1) scope.names (cloFrom X.env.cells scope.names [])) fp D
  show codeAny _ _ (.compStart e 0 (.ref it) (.ref D) (compEnvC scope (cellsFrom (s3.heap.objs.size + 1) scope.names (cloFrom X.env.cells scope.names [])) s3.heap.objs.size X.env)) (compPost (model X.prog X.w) X.A X.xe use Qf (.ref D) s3.heap.objs.size) { s3 with heap := pushCells (s3.heap.push { cls := .type "dict", data := .dict #[] }) scope.names }
  generalize hce : compEnvC scope (cellsFrom (s3.heap.objs.size + 1) scope.names (cloFrom X.env.cells scope.names [])) s3.heap.objs.size X.env = ce at I4 b0 b1 b2 ⊢
  have cL : ce.locals = s3.heap.objs.size := by subst hce; rfl
  generalize hH3 : upd H2 D (o0 D) = H3 at I3 I4 b0 b1 b2 turns f3
  generalize hs4 : ({ s3 with heap := pushCells (s3.heap.push { cls := .type "dict", data := .dict #[] }) scope.names } : Shared) = s4 at I4 ⊢
  have st4 : tn 0 s4.heap := T.keep _ _ _ st3 fun b _ o z => by rw [← hs4]; exact pushCells_keeps _ _ _ _ (Heap.get?_push_of_some _ z)
  have ha : ∀ g ∈ (c0 :: cs).map Cls.c, g.is_async = 0 := fun g hg => by
    obtain ⟨c, _, rfl⟩ := List.mem_map.mp hg
    rfl
  have go := clauses_go (B := X.blk s3 H3 scope ce fp) C ha hc rfl b2 cs 1 (by simp) b1 hch.2
  have fk : ∀ b ∈ fp, FpOk (X.blk s3 H3 scope ce fp) [] H3 b := fun b hb => ⟨(f3 b hb).1.1, (I4.ok.exf b hb).1, I4.ok.exfs b hb, .inl hb, fun x c z => (I4.ok.exf b hb).2 x c z, fun p hp => absurd (show p ∈ ([] : List (Addr × Obj)) ++ [] from hp) (by simp)⟩
  have ww : wipe (wipe σ (own.map (·.2))) c0.vs = wipe σ c0.vs := by
    rw [hv]
    exact wipe_wipe fun _ h => h
  have lp := turns_any (B := X.blk s3 H3 scope ce fp) (d := 0) (σ := wipe σ (own.map (·.2))) C ha hc rfl (c := c0) rfl b0 hch.1 go I4 T st4 fk (N := Q (.ref D)) (by
    obtain ⟨W, w0, tt⟩ := turns
    refine ⟨W, w0, fun i m H w => (tt i m H w).imp id fun ⟨go, N1, hN1, st⟩ => ⟨go, N1, hN1, fun x H' y => ?_⟩⟩
    have := st x H' y
    rw [← ww] at this
    exact this)
  refine codeAny_mono (start_any C (g := c0.c) rfl rfl lp (T.self X.A 0 _ _ _ st4 lp)) fun r s6 hr => ?_
  obtain ⟨rfl, H5, I6, qq⟩ := hr
  have I7 : Inv X pins σ H5 s6 := I3.call' (ch := fp) I6.os I6.base I6.hok I6.bare fun b hb => ⟨(f3 b hb).1.2.2.2.1, (f3 b hb).1.2.1, (f3 b hb).1.2.2.2.2.1, (f3 b hb).1.2.2.2.2.2⟩
  have nC : H5 s3.heap.objs.size = none := by
    have z : H5 ce.locals = none := I6.free
    rw [cL] at z
    exact z
  obtain ⟨m, hm, _⟩ := I6.loc
  have hm : s6.heap.Ns ce.locals m := hm
  rw [cL] at hm
  exact hRR D s3.heap.objs.size s6 m H5 I7 qq hm (I3.fpOk (Nat.le_refl _) nC)
end
end
end Dw
namespace Dw
noncomputable section
open PySem PySem.Spec PyProof.Rows L2
theorem put_any {X : Cx} {pins : List (Addr × Obj)} {σ : L2.St} {H H' : Hp} {s : Shared} {a : Addr} {y v : V} {u r : Value} {E : Value → Shared → Prop} {Q : Unit → Shared → Prop} (hu : X.A.units + 1 < cLine) (I : Inv X pins σ H s) (g : DPut H a y v H') (ry : RelV y u) (rv : RelV v r) (h : ∀ s', Inv X pins σ H' s' → Q () s') :
    wpAny (model X.prog X.w) X.A (dictSet a u r) Q E s := by
  rcases g with ⟨kvs, k, e, ey, l, eH⟩ | ⟨kvs, k, b, e, ey, eb, l, eH⟩
  · subst ey eH
    exact d_dictSet I e l ry rv h
  · subst ey eH
    cases (show u = Value.ref b from ry)
    obtain ⟨z, hd, xs, rel, dd⟩ := dt_of I.hok e
    have hz : xs.length ≤ sizeLine := by
      rw [← Paired.length rel]
      exact z
    have hl : (putK kvs k v).length ≤ sizeLine := by
      have := length_putK kvs k v
      omega
    refine wpAny_dictSet_heap (hsz := hz) (show X.A.units < cLine by omega) (key_of I.hok eb) dd fun h' dd' hs => h _ ?_
    obtain ⟨q, es, ep, hq, h2, h3, h4, _, h5⟩ := dd'
    have nb : ∀ {c : Addr} {ys : List V}, H c = some (.tup ys) → c ≠ a := fun ec => ne_of ec e (fun z => nomatch z)
    exact d_write I (by rw [e]; exact True.intro) hs ⟨q, hq⟩ ⟨hl, hd, _, (rel.put k eb rv).keeps fun c ys ec => by rw [upd_ne (nb ec)]; exact ec, q, es, ep, hq, h2, h3, h4, h5⟩
def teL (tv : TE) (D : Addr) : TB := fun σ H N => tv σ H fun y H1 => ∃ acc, H1 D = some (.lst acc) ∧ acc.length < sizeLine ∧ N (upd H1 D (.lst (acc ++ [y])))
def teD (tk tv : TE) (D : Addr) : TB := fun σ H N => tk σ H fun y H1 => tv σ H1 fun z H2 => ∃ H3, DPut H2 D y z H3 ∧ N H3
section
variable {B : Cx}
theorem pem_l {elt : Expr} {tv : TE} {D : Addr} (hx : B.xe = fun _ _ => False) (he : PE B elt tv) : PEm B (eval elt B.env >>= fun v => call (.builtin "list.append") [.ref D, v] >>= fun _ => pure ()) (teL tv D) := fun pins s σ H N I h => by
  have z := he.run pins s σ H _ I h
  rw [hx] at z
  refine wpAny_bind (thn z fun u s1 h1 => ?_)
  obtain ⟨y, H1, I1, r1, acc, hD, hz, n⟩ := h1
  exact wpAny_bind (L2.app_ok I1 hD hz r1 fun s2 I2 => wpAny_pure ⟨_, I2, n⟩)
theorem pem_d {kx vx : Expr} {tk tv : TE} {D : Addr} {p : Pos} (hx : B.xe = fun _ _ => False) (hu : B.A.units + 1 < cLine) (hk : PE B kx tk) (he : PE B vx tv) :
    PEm B (eval kx B.env >>= fun kv => holding [kv] (eval vx B.env) >>= fun vv => standAt p >>= fun _ => holding [kv, vv] (dictSet D kv vv)) (teD tk tv D) := fun pins s σ H N I h => by
  have z := hk.run pins s σ H _ I h
  rw [hx] at z
  refine wpAny_bind (thn z fun u s1 h1 => ?_)
  obtain ⟨y, H1, I1, r1, h2⟩ := h1
  have z2 := he.run pins s1 σ H1 _ I1 h2
  rw [hx] at z2
  refine wpAny_bind (wpAny_holding (thn z2 fun u2 s2 h3 => ?_))
  obtain ⟨v, H2, I2, r2, H3, g, n⟩ := h3
  exact wpAny_bind (wpAny_standAt (wpAny_holding (put_any hu I2 g r1 r2 fun s3 I3 => ⟨_, I3, n⟩)))
end
section
variable {X : Cx} {scope : Scope} {own : List (Str × Nat)} {pos : Pos} {c0 : Cls} {cs : List Cls} {gens : List Comprehension}
theorem pe_lcN {elt : Expr} {tv : TE} (hc : X.calm = true) (hN : X.N.Nodup) (hg : gens = (c0 :: cs).map Cls.c) (hi : PI X c0.tg c0.iter c0.wi) (ok : BlkOk X.N X.env.scope scope own) (hv : c0.vs = own.map (·.2)) (hch : Chain (c0 :: cs))
    (h0 : InBlk X scope c0.In) (h1 : InBlk X scope fun B => ∀ c ∈ cs, c.On B) (he : InBlk X scope fun B => PE B elt tv) (hs : ∀ x, foldedSetIterable c0.iter X.env x = pure x := by intro _; rfl) :
    PE X (.ListComp elt gens scope pos) (tCmp (fun _ => .lst []) (teL tv) c0 cs) := by
  subst hg
  refine ⟨fun pins s σ H Q I h => ?_⟩
  rw [eval_ListComp]
  refine comp_core (emit := fun acc env => eval elt env >>= fun v => call (.builtin "list.append") [acc, v] >>= fun _ => pure ()) hc hN I (fun D => compOf_list) hi hs ok hv hch h0 h1 (fun s H C cl fp D => pem_l (B := X.blk s H scope (compEnvC scope cl C X.env) fp) rfl (he s H C cl fp)) newOf_list h fun D C s' m H' I' q hn f => ⟨m, hn, fun h'' sb => ?_⟩
  obtain ⟨f0, f1, f2, f3, f4, f5⟩ := f
  exact ⟨.ref D, H', I'.turned (t' := s'.toks) (fun b o hb e => (sb.2 b hb).trans e) f0 f1 f3 f4 f5, rfl, q⟩
theorem pe_dcN {kx vx : Expr} {tk tv : TE} {o0 : Addr → HO} (hn : NewOf newDict { cls := .type "dict", data := .dict #[] } o0) (hc : X.calm = true) (hN : X.N.Nodup) (hu : X.A.units + 1 < cLine) (hg : gens = (c0 :: cs).map Cls.c) (hi : PI X c0.tg c0.iter c0.wi) (ok : BlkOk X.N X.env.scope scope own) (hv : c0.vs = own.map (·.2)) (hch : Chain (c0 :: cs))
    (h0 : InBlk X scope c0.In) (h1 : InBlk X scope fun B => ∀ c ∈ cs, c.On B) (hk : InBlk X scope fun B => PE B kx tk) (he : InBlk X scope fun B => PE B vx tv) (hs : ∀ x, foldedSetIterable c0.iter X.env x = pure x := by intro _; rfl) :
    PE X (.DictComp kx vx gens scope pos) (tCmp o0 (teD tk tv) c0 cs) := by
  subst hg
  refine ⟨fun pins s σ H Q I h => ?_⟩
  rw [arm_eval_DictComp]
  refine comp_core (emit := fun acc env => match acc with | .ref D => eval kx env >>= fun kv => holding [kv] (eval vx env) >>= fun vv => standAt { kx.pos with endLine := vx.pos.endLine, endCol := vx.pos.endCol } >>= fun _ => holding [kv, vv] (dictSet D kv vv) | _ => pure ()) hc hN I (fun D => compOf_dict) hi hs ok hv hch h0 h1 (fun s H C cl fp D => pem_d (B := X.blk s H scope (compEnvC scope cl C X.env) fp) rfl hu (hk s H C cl fp) (he s H C cl fp)) hn h fun D C s' m H' I' q hn f => ⟨m, hn, fun h'' sb => ?_⟩
  obtain ⟨f0, f1, f2, f3, f4, f5⟩ := f
  exact ⟨.ref D, H', I'.turned (t' := s'.toks) (fun b o hb e => (sb.2 b hb).trans e) f0 f1 f3 f4 f5, rfl, q⟩
end
end
end Dw
namespace Dw
noncomputable section
open PySem PySem.Spec PyProof.Rows L2
variable [Glo] [Tabs]
structure DCl where
  fi : SI
  tg : Tg
  ft : Option SE
  vs : List Nat
abbrev EmD := Sl → C → Option (C × Sl)
def testN (ft : Option SE) (env : Sl) (k : Bool → Sl → Option (C × Sl)) : Option (C × Sl) :=
  match ft with
  | none => k true env
  | some f => match f env with
    | some (.ok a env2) => (tru a env2).bind fun b => k b env2
    | _ => none
def turnsN (c : DCl) (body : EmD) : List D → EmD
  | [], env, acc => some (acc, env)
  | x :: xs, env, acc => (putT c.tg x env).bind fun env1 => testN c.ft env1 fun b env2 => match b with
    | true => (body env2 acc).bind fun p => turnsN c body xs (clr c.vs p.2) p.1
    | false => turnsN c body xs (clr c.vs env2) acc
def clsN (em : EmD) : List DCl → EmD
  | [], env, acc => em env acc
  | c :: cs, env, acc => match c.fi env with
    | some (.ok xs env1) => turnsN c (clsN em cs) xs (clr c.vs env1) acc
    | _ => none
def cmpN (em : EmD) (a0 : C) (c0 : DCl) (cs : List DCl) : SE := fun env => match c0.fi env with
  | some (.ok xs env1) => (turnsN c0 (clsN em cs) xs (clr c0.vs env1) a0).map fun p => .ok (.own p.1) (rst c0.vs env1 p.2)
  | some (.ex e env1) => some (.ex e env1)
  | none => none
/-- what the innermost does: an item, an entry -/
def emL (fe : SE) : EmD := fun env acc => match acc with
  | .lst xs => (eltD fe env).bind fun p => if xs.length < 100000 then some (.lst (xs ++ [p.1]), p.2) else none
  | _ => none
def emK (fk fv : SE) : EmD := fun env acc => match acc, fk env with
  | .dct ks vs, some (.ok (.d k) env1) => (eltD fv env1).bind fun p => if isK k = true ∧ ks.length < 100000 then some (.dct (putDk ks k) (putDv ks vs k p.1), p.2) else none
  | _, _ => none
def Apart (σ : L2.St) (env : Sl) (L : Addr) : Prop := ∀ (j : Nat) b c', env[j]? = some (SV.own b c') → σ[j]? ≠ some (some (V.ref L))
structure AccAt (K : PySem.W.Frag) (F : Hp) (R : Fm) (σ : L2.St) (H : Hp) (env : Sl) (L : Addr) (acc : C) : Prop where
  o : ∃ o, H L = some o ∧ CellOk K F L o acc
  f : F L = none
  r : R.r L = none
  a : Apart σ env L
section
theorem clr_clr {env : Sl} {us vs : List Nat} (h : ∀ i ∈ us, i ∈ vs) : clr vs (clr us env) = clr vs env := by
  apply List.ext_getElem?
  intro k
  by_cases hk : k ∈ vs
  · by_cases hl : k < env.length
    · have get : ∀ e : Sl, e.length = env.length → (clr vs e)[k]? = some .un := fun e he => by
        cases q : (clr vs e)[k]? with
        | none => rw [List.getElem?_eq_none_iff, clr_len] at q; omega
        | some s => rw [clr_in vs e k s hk q]
      rw [get _ (clr_len us env), get _ rfl]
    · rw [List.getElem?_eq_none (by rw [clr_len, clr_len]; omega), List.getElem?_eq_none (by rw [clr_len]; omega)]
  · rw [clr_get vs _ k hk, clr_get vs _ k hk, clr_get us _ k fun z => hk (h k z)]
variable {K : PySem.W.Frag} {W : WX} {F F' : Hp} {R R' : Fm} {σ : L2.St} {H H' : Hp} {env env' : Sl} {L : Addr} {acc : C} {Q : VK}
theorem Apart.wipe {vs : List Nat} (h : Apart σ env L) : Apart (wipe σ vs) (clr vs env) L := fun j b c' q z => by
  by_cases hj : j ∈ vs
  · have := clr_in vs env j _ hj q
    cases this
  · rw [clr_get vs env j hj] at q
    rw [wipe_get vs σ j hj] at z
    exact h j b c' q z
/-- held, and no more -/
theorem AccAt.hold (A : AccAt K F R σ H env L acc) (S : Sta K F R σ H env) : ∃ o, CellOk K F L o acc ∧ FEx R ⟨upd R.r L o, R.t, R.T⟩ ∧ Sta K F ⟨upd R.r L o, R.t, R.T⟩ σ H env := by
  obtain ⟨o, h1, h2⟩ := A.o
  exact ⟨o, h2, ⟨Ex.new A.r, rfl⟩, S.hold A.f h1 h2.noT A.a⟩
theorem AccAt.back {o : HO} {σ' : L2.St} (hr : R.r L = none) (h : CellOk K F L o acc) (e : Ex F F') (S : Sta K F' ⟨upd R.r L o, R.t, R.T⟩ σ' H' env') : Sta K F' R σ' H' env' ∧ AccAt K F' R σ' H' env' L acc := by
  refine ⟨S.unhold ⟨Ex.new hr, rfl⟩, ⟨o, S.fr L o upd_same, h.up e⟩, S.dis L o upd_same, hr, fun j b c' q z => ?_⟩
  obtain ⟨p, u, z1, _, z3, _⟩ := S.own j b c' q
  rw [z] at z1
  cases z1
  have z3 : upd R.r L o L = none := z3
  rw [upd_same] at z3
  cases z3
/-- .. it is written -/
theorem AccAt.put {o' : HO} {acc' : C} (A : AccAt K F R σ H env L acc) (S : Sta K F R σ H env) (h : CellOk K F L o' acc') : Sta K F R σ (upd H L o') env ∧ AccAt K F R σ (upd H L o') env L acc' := by
  obtain ⟨o, hL, ho⟩ := A.o
  refine ⟨⟨fun b u q => ?_, fun b u q => ?_, S.dis, S.len, S.dat, fun j b c q => ?_, S.tag, S.inj, S.xn, fun P h => ?_⟩, ⟨o', upd_same, h⟩, A.f, A.r, A.a⟩
  · have hb : b ≠ L := fun z => by rw [z, A.f] at q; cases q
    rw [upd_ne hb]; exact S.sub b u q
  · have hb : b ≠ L := fun z => by rw [z, A.r] at q; cases q
    rw [upd_ne hb]; exact S.fr b u q
  · obtain ⟨p', u, z1, z2, z3, z4, z5⟩ := S.own j b c q
    have hb : p' ≠ L := fun z => A.a j b c q (by rw [z1, z])
    exact ⟨p', u, z1, z2, z3, by rw [upd_ne hb]; exact z4, z5⟩
  · obtain ⟨⟨ps, h1, h2⟩, h3⟩ := S.tab P h
    have hb : P ≠ L := fun z => by rw [z, hL] at h1; exact ho.noT ps (Option.some.inj h1)
    exact ⟨⟨ps, by rw [upd_ne hb]; exact h1, h2⟩, h3⟩
/-- what a body promises: mb told by tb; vs the names that it forgets -/
def BodyOk (K : PySem.W.Frag) (L : Addr) (tb : TB) (mb : EmD) (vs : List Nat) : Prop := ∀ {F : Hp} {R : Fm} {σ : L2.St} {H : Hp} {env : Sl} {acc : C} {p : C × Sl} {N : Hp → Prop}, Sta K F R σ H env → AccAt K F R σ H env L acc → mb env acc = some p →
  (∀ F' H', Ex F F' → Sta K F' R (wipe σ vs) H' (clr vs p.2) → AccAt K F' R (wipe σ vs) H' (clr vs p.2) L p.1 → N H') → tb σ H N
theorem turns_ok {c : DCl} {tb : TB} {mb : EmD} {vs1 : List Nat} (hv : c.tg.sub c.vs = true) (hs : ∀ i ∈ vs1, i ∈ c.vs) (hb : BodyOk K L tb mb vs1) {J : It} {xs : List D} {q : C × Sl} {N : Hp → Prop} (S : Sta K F R (wipe σ c.vs) H env) (A : AccAt K F R (wipe σ c.vs) H env L acc) (wk : Wk K F J xs) (e : turnsN c mb xs env acc = some q)
    (hN : ∀ F' H', Ex F F' → Sta K F' R (wipe σ c.vs) H' q.2 → AccAt K F' R (wipe σ c.vs) H' q.2 L q.1 → N H') : tTurns J (gT K c.tg) (tTD K c.ft) c.vs tb σ H N := by
  refine ⟨fun i m H' => m = xs.length - i ∧ i ≤ xs.length ∧ ∃ env' F' acc', Ex F F' ∧ Sta K F' R (wipe σ c.vs) H' env' ∧ AccAt K F' R (wipe σ c.vs) H' env' L acc' ∧ turnsN c mb (xs.drop i) env' acc' = some q, ⟨xs.length, by simp, Nat.zero_le _, env, F, acc, Ex.refl F, S, A, e⟩, ?_⟩
  rintro i m H1 ⟨rfl, hi, env1, F1, acc1, ex1, S1, A1, e1⟩
  by_cases hlt : i < xs.length
  · have hx : xs[i]? = some xs[i] := List.getElem?_eq_getElem hlt
    rw [List.drop_eq_getElem_cons hlt] at e1
    have e1 : ((putT c.tg xs[i] env1).bind fun env1 => testN c.ft env1 fun b env2 => match b with
      | true => (mb env2 acc1).bind fun p => turnsN c mb (xs.drop (i + 1)) (clr c.vs p.2) p.1
      | false => turnsN c mb (xs.drop (i + 1)) (clr c.vs env2) acc1) = some q := e1
    rw [Option.bind_eq_some_iff] at e1
    obtain ⟨env2, h3, e1⟩ := e1
    obtain ⟨o, ho, eR, S2⟩ := A1.hold S1
    refine .inr ⟨wk.goes i H1 hlt (ex1.trans S1.sub), fun H2 => ∃ env' F' acc', Ex F F' ∧ Sta K F' R (wipe σ c.vs) H2 env' ∧ AccAt K F' R (wipe σ c.vs) H2 env' L acc' ∧ turnsN c mb (xs.drop (i + 1)) env' acc' = some q, fun H2 h => ⟨xs.length - (i + 1), by omega, rfl, hlt, h⟩, fun v H3 hy => ?_⟩
    obtain ⟨F3, e4, S3, rv, eH⟩ := wk.yields i H1 v H3 xs[i] hx ex1 S2 hy
    refine putT_in hv S3 rv h3 fun σ3 S4 hw => ⟨hw, ?_⟩
    have body : ∀ (env3 : Sl) (F5 H5 : Hp), Ex F3 F5 → Sta K F5 ⟨upd R.r L o, R.t, R.T⟩ σ3 H5 env3 → ((mb env3 acc1).bind fun p => turnsN c mb (xs.drop (i + 1)) (clr c.vs p.2) p.1) = some q →
        tb σ3 H5 fun H2 => ∃ env' F' acc', Ex F F' ∧ Sta K F' R (wipe σ c.vs) H2 env' ∧ AccAt K F' R (wipe σ c.vs) H2 env' L acc' ∧ turnsN c mb (xs.drop (i + 1)) env' acc' = some q := fun env3 F5 H5 e5 S5 e6 => by
      rw [Option.bind_eq_some_iff] at e6
      obtain ⟨p, h4, e6⟩ := e6
      obtain ⟨S6, A6⟩ := AccAt.back A1.r ho (e4.trans e5) S5
      refine hb S6 A6 h4 fun F7 H7 e7 S7 A7 => ?_
      have S8 := S7.wipe c.vs
      have a8 := A7.a.wipe (vs := c.vs)
      rw [wipe_wipe hs, clr_clr hs, hw] at S8 a8
      exact ⟨_, F7, p.1, ex1.trans (e4.trans (e5.trans e7)), S8, ⟨A7.o, A7.f, A7.r, a8⟩, e6⟩
    have skip : ∀ (env3 : Sl) (F5 H5 : Hp), Ex F3 F5 → Sta K F5 ⟨upd R.r L o, R.t, R.T⟩ σ3 H5 env3 → turnsN c mb (xs.drop (i + 1)) (clr c.vs env3) acc1 = some q →
        ∃ env' F' acc', Ex F F' ∧ Sta K F' R (wipe σ c.vs) H5 env' ∧ AccAt K F' R (wipe σ c.vs) H5 env' L acc' ∧ turnsN c mb (xs.drop (i + 1)) env' acc' = some q := fun env3 F5 H5 e5 S5 e6 => by
      obtain ⟨S6, A6⟩ := AccAt.back A1.r ho (e4.trans e5) S5
      have S8 := S6.wipe c.vs
      have a8 := A6.a.wipe (vs := c.vs)
      rw [hw] at S8 a8
      exact ⟨_, F5, acc1, ex1.trans (e4.trans e5), S8, ⟨A6.o, A6.f, A6.r, a8⟩, e6⟩
    unfold testN at e1
    cases hft : c.ft with
    | none =>
      rw [hft] at e1
      exact body env2 F3 H3 (Ex.refl _) S4 e1
    | some f =>
      rw [hft] at e1
      dsimp only at e1
      cases h6 : f env2 with
      | none => rw [h6] at e1; cases e1
      | some r6 =>
        rw [h6] at e1
        cases r6 with
        | ex _ _ => cases e1
        | ok a env3 =>
          dsimp only at e1
          rw [Option.bind_eq_some_iff] at e1
          obtain ⟨b, h7, e1⟩ := e1
          refine ⟨env2, F3, ⟨upd R.r L o, R.t, R.T⟩, _, S4, h6, b, h7, fun F5 H5 e5 S5 => ?_⟩
          cases b with
          | true => exact iteT (body env3 F5 H5 e5 S5 e1)
          | false => exact iteF (skip env3 F5 H5 e5 S5 e1)
  · have hi' : i = xs.length := by omega
    subst hi'
    rw [List.drop_length] at e1
    cases e1
    exact .inl ⟨wk.stops H1 (ex1.trans S1.sub), hN F1 H1 ex1 S1 A1⟩
end
end
end Dw
namespace Dw
noncomputable section
open PySem PySem.Spec PyProof.Rows L2
variable [Glo] [Tabs]
/-- a clause as it is written, and what it means -/
structure SCl where
  tg : Expr
  iter : Expr
  ifs : List Expr
  d : DCl
def SCl.cW (K : PySem.W.Frag) (W : WX) (s : SCl) : Cls := ⟨s.tg, s.iter, s.ifs, dI K W s.d.fi, gT K s.d.tg, tTD K s.d.ft, s.d.vs⟩
def SCl.g (s : SCl) : Comprehension := ⟨s.tg, s.iter, s.ifs, 0⟩
def okSub (s : SCl) : Bool := s.d.tg.sub s.d.vs
def chainB : List SCl → Bool
  | [] => true
  | [s] => okSub s
  | s :: t :: r => okSub s && (t.d.vs.all fun i => s.d.vs.contains i) && chainB (t :: r)
theorem chainB_sub : ∀ {cs : List SCl}, chainB cs = true → ∀ s ∈ cs, s.d.tg.sub s.d.vs = true
  | [s], h, u, hu => by rw [List.mem_singleton] at hu; subst hu; exact h
  | s :: t :: r, h, u, hu => by
    have h : (okSub s && (t.d.vs.all fun i => s.d.vs.contains i) && chainB (t :: r)) = true := h
    rw [Bool.and_eq_true, Bool.and_eq_true] at h
    rcases List.mem_cons.mp hu with e | hu
    · subst e; exact h.1.1
    · exact chainB_sub h.2 u hu
theorem chainB_ok {K : PySem.W.Frag} {W : WX} : ∀ {cs : List SCl}, chainB cs = true → Chain (cs.map (SCl.cW K W))
  | [], _ => trivial
  | [s], _ => ⟨fun i h => (by cases h), trivial⟩
  | s :: t :: r, h => by
    have h : (okSub s && (t.d.vs.all fun i => s.d.vs.contains i) && chainB (t :: r)) = true := h
    rw [Bool.and_eq_true, Bool.and_eq_true, List.all_eq_true] at h
    exact ⟨fun i hi => by have z := h.1.2 i hi; simp at z; exact z, chainB_ok h.2⟩
section
variable {K : PySem.W.Frag} {W : WX} {F F' : Hp} {R R' : Fm} {σ : L2.St} {H H' : Hp} {env env' : Sl} {L : Addr} {acc : C} {Q : VK}
theorem cls_ok {te : TB} {em : EmD} (hb : BodyOk K L te em []) : ∀ (cs : List SCl), chainB cs = true → BodyOk K L (tCls te (cs.map (SCl.cW K W0))) (clsN em (cs.map SCl.d)) (vsOf (cs.map (SCl.cW K W0)))
  | [], _ => fun S A e hN => hb S A e hN
  | s :: cs, hch => by
    rename_i F R σ H env acc p N
    intro S A e hN
    have ih : BodyOk K L (tCls te (cs.map (SCl.cW K W0))) (clsN em (cs.map SCl.d)) (vsOf (cs.map (SCl.cW K W0))) := cls_ok hb cs (by
      cases cs with
      | nil => rfl
      | cons t r =>
        have h : (okSub s && (t.d.vs.all fun i => s.d.vs.contains i) && chainB (t :: r)) = true := hch
        rw [Bool.and_eq_true] at h
        exact h.2)
    have ch := chainB_ok (K := K) (W := W0) hch
    have e : (match s.d.fi env with
      | some (.ok xs env1) => turnsN s.d (clsN em (cs.map SCl.d)) xs (clr s.d.vs env1) acc
      | _ => none) = some p := e
    cases h1 : s.d.fi env with
    | none => rw [h1] at e; cases e
    | some r =>
      rw [h1] at e
      cases r with
      | ex _ _ => cases e
      | ok xs env1 =>
        dsimp only at e
        obtain ⟨o, ho, eR, S1⟩ := A.hold S
        refine ⟨env, F, _, _, S1, h1, fun J F1 H1 e1 S2 wk => ?_⟩
        obtain ⟨S3, A3⟩ := AccAt.back A.r ho e1 S2
        refine turns_ok (c := s.d) (chainB_sub hch s List.mem_cons_self) ch.1 ih (S3.wipe s.d.vs) ⟨A3.o, A3.f, A3.r, A3.a.wipe⟩ wk e fun F4 H4 e4 S4 A4 => ?_
        have S5 := S4.wipe s.d.vs
        have a5 := A4.a.wipe (vs := s.d.vs)
        rw [wipe_wipe fun _ h => h] at S5 a5
        exact hN F4 H4 (e1.trans e4) S5 ⟨A4.o, A4.f, A4.r, a5⟩
theorem dE_cmpN {s : SCl} {cs : List SCl} {te : Addr → TB} {em : EmD} {a0 : C} {o0 : Addr → HO} (hch : chainB (s :: cs) = true) (h0 : ∀ L F, CellOk K F L (o0 L) a0) (hb : ∀ L, BodyOk K L (te L) em []) (h : dE K W (cmpN em a0 s.d (cs.map SCl.d)) σ H Q) : tCmp o0 te (s.cW K W) (cs.map (SCl.cW K W0)) σ H Q := by
  obtain ⟨env, F, R, r, S, e, p⟩ := h
  have e : (match s.d.fi env with
    | some (.ok xs env1) => (turnsN s.d (clsN em (cs.map SCl.d)) xs (clr s.d.vs env1) a0).map fun p => Re.ok (.own p.1) (rst s.d.vs env1 p.2)
    | some (.ex e env1) => some (.ex e env1)
    | none => none) = some r := e
  have hch2 : chainB cs = true := by
    cases cs with
    | nil => rfl
    | cons t r =>
      have h : (okSub s && (t.d.vs.all fun i => s.d.vs.contains i) && chainB (t :: r)) = true := hch
      rw [Bool.and_eq_true] at h
      exact h.2
  have ch := chainB_ok (K := K) (W := W0) hch
  cases h1 : s.d.fi env with
  | none => rw [h1] at e; cases e
  | some q =>
    rw [h1] at e
    cases q with
    | ex x env1 => cases e; exact ⟨env, F, R, _, S, h1, p⟩
    | ok xs env1 =>
      dsimp only at e
      rw [Option.map_eq_some_iff] at e
      obtain ⟨⟨ys, env9⟩, h2, rfl⟩ := e
      refine ⟨env, F, R, _, S, h1, fun J F1 H1 e1 S1 wk L hL => ?_⟩
      have ap : Apart (wipe σ s.d.vs) (clr s.d.vs env1) L := fun j b c' q z => by
        obtain ⟨p', o, z1, _, _, z4, _⟩ := (S1.wipe s.d.vs).own j b c' q
        rw [z] at z1
        cases z1
        rw [hL] at z4
        cases z4
      refine turns_ok (c := s.d) (chainB_sub hch s List.mem_cons_self) ch.1 (cls_ok (hb L) cs hch2) ((S1.wipe s.d.vs).freshH hL) ⟨⟨_, upd_same, h0 L F1⟩, S1.freeF hL, S1.freeR hL, ap⟩ wk h2 fun F4 H4 e4 S4 A4 => ?_
      obtain ⟨o, ho1, ho2⟩ := A4.o
      refine p _ F4 H4 (e1.trans e4) (Sta.unwipe S1 e4 S4) ⟨L, o, rfl, A4.f, A4.r, ho1, ho2, fun j b c' q z => ?_⟩
      by_cases hj : j ∈ s.d.vs
      · have := rst_in s.d.vs env1 env9 j _ hj q
        unfold keepD at this
        split at this <;> cases this
      · rw [rst_get s.d.vs env1 env9 j hj] at q
        exact A4.a j b c' q (by rw [wipe_get s.d.vs σ j hj]; exact z)
/-- an item behind a list -/
theorem body_l {fe : SE} : BodyOk K L (teL (dE K W0 fe) L) (emL fe) [] := fun {F R σ H env acc p N} S A e hN => by
  cases acc with
  | lst xs =>
    have e : ((eltD fe env).bind fun p => if xs.length < 100000 then some (C.lst (xs ++ [p.1]), p.2) else none) = some p := e
    rw [Option.bind_eq_some_iff] at e
    obtain ⟨⟨y, env4⟩, h4, e⟩ := e
    obtain ⟨hle, rfl⟩ := some_if e
    unfold eltD at h4
    cases h5 : fe env with
    | none => rw [h5] at h4; cases h4
    | some r5 =>
      rw [h5] at h4
      cases r5 with
      | ex _ _ => cases h4
      | ok a env5 =>
        obtain ⟨o, ho, eR, S1⟩ := A.hold S
        refine ⟨env, F, _, _, S1, h5, fun w F6 H6 e7 S6 rw' => ?_⟩
        obtain ⟨F7, e8, S7, r7⟩ := frz_ok S6 rw' h4
        obtain ⟨S8, A8⟩ := AccAt.back A.r ho (e7.trans e8) S7
        obtain ⟨o', k1, avs, rfl, ra⟩ := A8.o
        obtain ⟨S9, A9⟩ := A8.put S8 (o' := .lst (avs ++ [w])) (acc' := .lst (xs ++ [y])) ⟨_, rfl, ra.app (.cons r7 .nil)⟩
        exact ⟨avs, k1, Nat.lt_of_lt_of_le (by rw [ra.len]; exact hle) (by decide : 100000 ≤ sizeLine), hN F7 _ (e7.trans e8) S9 A9⟩
  | _ => cases e
/-- an entry of a dict -/
theorem body_k {fk fv : SE} : BodyOk K L (teD (dE K W0 fk) (dE K W0 fv) L) (emK fk fv) [] := fun {F R σ H env acc p N} S A e hN => by
  unfold emK at e
  cases acc with
  | dct ks vs =>
    cases h1 : fk env with
    | none => rw [h1] at e; cases e
    | some r1 =>
      rw [h1] at e
      cases r1 with
      | ex _ _ => cases e
      | ok a1 env1 =>
        cases a1 with
        | own _ => cases e
        | cv _ => cases e
        | d k =>
          dsimp only at e
          rw [Option.bind_eq_some_iff] at e
          obtain ⟨⟨y, env4⟩, h4, e⟩ := e
          obtain ⟨⟨hk, hle⟩, rfl⟩ := some_if e
          obtain ⟨kk, hk'⟩ := key_of' hk
          obtain rfl := kD_of hk'
          unfold eltD at h4
          cases h5 : fv env1 with
          | none => rw [h5] at h4; cases h4
          | some r5 =>
            rw [h5] at h4
            cases r5 with
            | ex _ _ => cases h4
            | ok a env5 =>
              obtain ⟨o, ho, eR, S1⟩ := A.hold S
              refine ⟨env, F, _, _, S1, h1, fun u F5 H5 e5 S5 ru => ⟨env1, F5, _, _, S5, h5, fun w F6 H6 e7 S6 rw' => ?_⟩⟩
              have : u = kV kk := by
                have ru : Rel K F5 u (kD kk) := ru
                cases kk <;> (cases ru; rfl)
              subst this
              obtain ⟨F7, e8, S7, r7⟩ := frz_ok S6 rw' h4
              obtain ⟨S8, A8⟩ := AccAt.back A.r ho (e5.trans (e7.trans e8)) S7
              obtain ⟨o', k1, kvs, rfl, rfl, ra⟩ := A8.o
              obtain ⟨g1, g2⟩ := put_rel kk r7 kvs vs ra
              obtain ⟨S9, A9⟩ := A8.put S8 (o' := .dK (putK kvs kk w)) (acc' := .dct (putDk (kvs.map fun e => kD e.1) (kD kk)) (putDv (kvs.map fun e => kD e.1) vs (kD kk) y)) ⟨_, rfl, g1, g2⟩
              rw [List.length_map] at hle
              exact ⟨_, DPut.k k1 (Nat.lt_of_lt_of_le hle (by decide : 100000 ≤ sizeLine)), hN F7 _ (e5.trans (e7.trans e8)) S9 A9⟩
  | _ => cases e
end
section
variable {X : Cx} {W : WX} {scope : Scope} {own : List (Str × Nat)} {pos : Pos} {s : SCl} {cs : List SCl} {gens : List Comprehension}
def OnAll (B : Cx) : List SCl → Prop
  | [] => True
  | s :: ss => (PI B s.tg s.iter (dI B.K W0 s.d.fi) ∧ (∀ x, foldedSetIterable s.iter B.env x = pure x) ∧ PG B s.tg (gT B.K s.d.tg) ∧ PTs B s.ifs (tTD B.K s.d.ft)) ∧ OnAll B ss
theorem OnAll.all {B : Cx} : ∀ {cs : List SCl}, OnAll B cs → ∀ c ∈ cs.map (SCl.cW B.K W0), c.On B
  | [], _, c, h => by cases h
  | s :: ss, ⟨⟨h1, h2, h3, h4⟩, h5⟩, c, h => by
    rw [List.map_cons] at h
    rcases List.mem_cons.mp h with e | h
    · subst e; exact ⟨h1, h2, ⟨h3, h4⟩⟩
    · exact OnAll.all h5 c h
theorem map_g (K : PySem.W.Frag) (W W' : WX) (s : SCl) (cs : List SCl) : (s :: cs).map SCl.g = (s.cW K W :: cs.map (SCl.cW K W')).map Cls.c := by
  rw [List.map_cons, List.map_cons, List.map_map]
  rfl
theorem chain0 {K : PySem.W.Frag} {W W' : WX} (h : chainB (s :: cs) = true) : Chain (s.cW K W :: cs.map (SCl.cW K W')) := by
  have a := chainB_ok (K := K) (W := W') h
  cases cs with
  | nil => exact ⟨fun i h => (by cases h), trivial⟩
  | cons t r => exact a
theorem pd_lcN {elt : Expr} {fe : SE} (hg : gens = (s :: cs).map SCl.g) (hch : chainB (s :: cs) = true) (hc : X.calm = true) (hN : X.N.Nodup) (ok : BlkOk X.N X.env.scope scope own) (hv : s.d.vs = own.map (·.2)) (hi : PI X s.tg s.iter (dI X.K W s.d.fi))
    (h0 : InBlk X scope fun B => PG B s.tg (gT X.K s.d.tg) ∧ PTs B s.ifs (tTD X.K s.d.ft)) (h1 : InBlk X scope fun B => OnAll B cs) (he : InBlk X scope fun B => PE B elt (dE X.K W0 fe)) (hs : ∀ x, foldedSetIterable s.iter X.env x = pure x := by intro _; rfl) :
    PE X (.ListComp elt gens scope pos) (dE X.K W (cmpN (emL fe) (.lst []) s.d (cs.map SCl.d))) :=
  (pe_lcN (c0 := s.cW X.K W) (cs := cs.map (SCl.cW X.K W0)) (tv := dE X.K W0 fe) hc hN (by rw [hg]; exact map_g X.K W W0 s cs) hi ok hv (chain0 hch) (fun s H C cl fp => let z := h0 s H C cl fp; ⟨z.1, z.2⟩) (fun s H C cl fp => (h1 s H C cl fp).all) he hs).wk
    fun _ _ _ q => dE_cmpN (te := teL (dE X.K W0 fe)) (a0 := .lst []) (o0 := fun _ => .lst []) hch (fun L F => ⟨[], rfl, .nil⟩) (fun L => body_l) q
theorem pd_dcK {kx vx : Expr} {fk fv : SE} (hg : gens = (s :: cs).map SCl.g) (hch : chainB (s :: cs) = true) (hc : X.calm = true) (hN : X.N.Nodup) (hu : X.A.units + 1 < cLine) (ok : BlkOk X.N X.env.scope scope own) (hv : s.d.vs = own.map (·.2)) (hi : PI X s.tg s.iter (dI X.K W s.d.fi))
    (h0 : InBlk X scope fun B => PG B s.tg (gT X.K s.d.tg) ∧ PTs B s.ifs (tTD X.K s.d.ft)) (h1 : InBlk X scope fun B => OnAll B cs) (hk : InBlk X scope fun B => PE B kx (dE X.K W0 fk)) (he : InBlk X scope fun B => PE B vx (dE X.K W0 fv)) (hs : ∀ x, foldedSetIterable s.iter X.env x = pure x := by intro _; rfl) :
    PE X (.DictComp kx vx gens scope pos) (dE X.K W (cmpN (emK fk fv) (.dct [] []) s.d (cs.map SCl.d))) :=
  (pe_dcN (c0 := s.cW X.K W) (cs := cs.map (SCl.cW X.K W0)) (tk := dE X.K W0 fk) (tv := dE X.K W0 fv) newOf_dK hc hN hu (by rw [hg]; exact map_g X.K W W0 s cs) hi ok hv (chain0 hch) (fun s H C cl fp => let z := h0 s H C cl fp; ⟨z.1, z.2⟩) (fun s H C cl fp => (h1 s H C cl fp).all) hk he hs).wk
    fun _ _ _ q => dE_cmpN (te := teD (dE X.K W0 fk) (dE X.K W0 fv)) (a0 := .dct [] []) (o0 := fun _ => .dK []) hch (fun L F => ⟨[], rfl, rfl, .nil⟩) (fun L => body_k) q
end
end
end Dw
namespace Dw
noncomputable section
open PySem PySem.Spec PyProof.Rows L2
variable [Glo] [Tabs]
def lookN (f : Str) : List Str → List D → Option D
  | n :: ns, x :: xs => if (f == n) = true then some x else lookN f ns xs
  | _, _ => none
def fldD (f : Str) : D → Option RV
  | .ins _ ns xs => (lookN f ns xs).map .d
  | _ => none
def putFn (f : Str) : List Str → List Str
  | [] => [f]
  | n :: ns => if n = f then n :: ns else n :: putFn f ns
def putFv (f : Str) (y : D) : List Str → List D → List D
  | n :: ns, x :: xs => if n = f then y :: xs else x :: putFv f y ns xs
  | _, _ => [y]
def ownI : Option SV → Option (Bool × Str × List Str × List D)
  | some (.own b (.ins c ns xs)) => some (b, c, ns, xs)
  | _ => none
def setF (f : Str) (j : Nat) (fe : SE) : SS := fun env => bindS (fe env) fun a env1 => (frz a env1).bind fun p => (ownI p.2[j]?).bind fun o =>
  if o.2.2.1.length < 900 then some (.nx (p.2.set j (.own o.1 (.ins o.2.1 (putFn f o.2.2.1) (putFv f p.1 o.2.2.1 o.2.2.2))))) else none
def insOf (c : Str) : D → Bool
  | .ins c' _ _ => c' == c
  | _ => false
def propE (c : Str) (m : List SV → Option FR) (fe : SE) : SE := fun env => bindE (fe env) fun a env1 => (frz a env1).bind fun p => if insOf c p.1 = true then (m [.d p.1]).bind (outD p.2) else none
end
end Dw
namespace Dw
noncomputable section
open PySem PySem.Spec PyProof.Rows L2
variable [Glo] [Tabs]
def insNo (c nm : Str) : D → Bool
  | .ins c' ns _ => c' == c && !ns.contains nm
  | _ => false
def methE (c nm : Str) (m : List SV → Option FR) (dfs : List D) (fe : SE) (fa : SA) : SE := fun env => bindE (fe env) fun a env1 => (frz a env1).bind fun p => if insNo c nm p.1 = true then
  bindA (fa p.2) fun as env2 => (frzs as env2).bind fun p2 => (m (((p.1 :: p2.1) ++ dfs).map .d)).bind (outD p2.2) else none
def outN (env : Sl) : FR → Option Re
  | .ok (.d .non) (.own true c :: _) => some (.ok (.own c) env)
  | .ex e (.own true _ :: _) => some (.ex e env)
  | _ => none
def newE (c : Str) (m : List SV → Option FR) (dfs : List D) (fa : SA) : SE := fun env => bindA (fa env) fun as env1 => (frzs as env1).bind fun p => (m (.own true (.ins c [] []) :: (p.1 ++ dfs).map .d)).bind (outN p.2)
end
end Dw
namespace Dw
noncomputable section
open PySem PySem.Spec PyProof.Rows L2
variable [Glo] [Tabs]
mutual
/-- the value v is this key, as far as the tracked heap tells -/
inductive KeyAt (K : PySem.W.Frag) (H : Hp) : V → NestedKey → Prop
  | non : KeyAt K H .non .none
  | bl (b : Bool) : KeyAt K H (.bl b) (.num (if b = true then 1 else 0))
  | int (i : Int) : KeyAt K H (.int i) (.num i)
  | str (x : Str) : KeyAt K H (.str x) (.text x)
  | tup {a : Addr} {xs : List V} {ks : List NestedKey} : SqT K H a xs → KeysAt K H xs ks → KeyAt K H (.ref a) (.tup ks)
inductive KeysAt (K : PySem.W.Frag) (H : Hp) : List V → List NestedKey → Prop
  | nil : KeysAt K H [] []
  | cons {v : V} {vs : List V} {k : NestedKey} {ks : List NestedKey} : KeyAt K H v k → KeysAt K H vs ks → KeysAt K H (v :: vs) (k :: ks)
end
section
variable {K : PySem.W.Frag} {F H : Hp}
mutual
theorem rel_key (e : Ex F H) : ∀ (d : D) (v : V) (k : NestedKey), Rel K F v d → nkD d = some k → KeyAt K H v k
  | .non, _, _, h, q => by cases h; cases q; exact .non
  | .bl b, _, _, h, q => by cases h; cases q; exact .bl b
  | .int i, _, _, h, q => by cases h; cases q; exact .int i
  | .str x, _, _, h, q => by cases h; cases q; exact .str _
  | .tup xs, _, k, h, q => by
    have q5 : (nkDs xs).map NestedKey.tup = some k := by rw [nkD] at q; exact q
    rw [Option.map_eq_some_iff] at q5
    obtain ⟨ks, q6, rfl⟩ := q5
    cases h with
    | tup s r => exact .tup (ex_t e s) (rels_key e xs _ ks r q6)
  | .lst _, _, _, _, q => by rw [nkD] at q; cases q; all_goals (intros; contradiction)
  | .dct _ _, _, _, _, q => by rw [nkD] at q; cases q; all_goals (intros; contradiction)
  | .ins _ _ _, _, _, _, q => by rw [nkD] at q; cases q; all_goals (intros; contradiction)
  | .dcu _ _, _, _, _, q => by rw [nkD] at q; cases q; all_goals (intros; contradiction)
theorem rels_key (e : Ex F H) : ∀ (ds : List D) (vs : List V) (ks : List NestedKey), RelAll K F vs ds → nkDs ds = some ks → KeysAt K H vs ks
  | [], _, _, h, q => by cases h; rw [nkDs] at q; cases q; exact .nil
  | d :: ds, _, ks, h, q => by
    rw [nkDs, Option.bind_eq_some_iff] at q
    obtain ⟨k, q1, q⟩ := q
    rw [Option.map_eq_some_iff] at q
    obtain ⟨ks', q2, rfl⟩ := q
    cases h with
    | cons a b => exact .cons (rel_key e d _ k a q1) (rels_key e ds _ ks' b q2)
end
end
section
variable {X : Cx} {pins : List (Addr × Obj)} {σ : L2.St} {H : Hp} {s : Shared}
mutual
theorem key_is (I : Inv X pins σ H s) : ∀ (k : NestedKey) (v : V) (u : Value), KeyAt X.K H v k → RelV v u → NestedIs s.heap k u
  | .none, _, _, h, r => by cases h; cases r; exact .none
  | .num i, _, _, h, r => by
    cases h with
    | bl b => cases r; exact .bool rfl
    | int i => obtain ⟨t, rfl⟩ := r; exact .int _ t
  | .text x, _, _, h, r => by
    cases h
    obtain ⟨t, rfl⟩ := r
    exact .text _ t
  | .tup ks, _, u, h, r => by
    cases h with
    | @tup a xs _ ht hk =>
      obtain rfl : u = Value.ref a := r
      obtain ⟨its, rv, ⟨o, h1, h2, n, h3⟩, _⟩ := I.tuple ht
      exact .tup h1 h2 h3 (by rw [List.toList_toArray]; exact keys_is I ks xs its hk rv)
theorem keys_is (I : Inv X pins σ H s) : ∀ (ks : List NestedKey) (vs : List V) (us : List Value), KeysAt X.K H vs ks → Vals vs us → NestedAll s.heap ks us
  | [], _, _, h, r => by cases h; cases r; exact .nil
  | k :: ks, _, _, h, r => by
    cases h with
    | cons a b =>
      cases r with
      | cons c d => exact .cons (key_is I k _ _ a c) (keys_is I ks _ _ b d)
end
/-- all keys of a dict are keys -/
def KeysOk (K : PySem.W.Frag) (H : Hp) (es : List (NestedKey × Addr × Value)) : Prop := ∀ x ∈ es, KeyAt K H (.ref x.2.1) x.1
theorem dx_at (I : Inv X pins σ H s) {D : Addr} {es : List (NestedKey × Addr × Value)} (hD : H D = some (dxO X.w D es)) (hk : KeysOk X.K H es) : s.heap.DictOfH (nestedKind X.prog X.w) D es ∧ (D == sysModules) = false ∧ es.length ≤ sizeLine := by
  obtain ⟨⟨o, es', ep, h1, h2, h3, h4, h5, h6, h7, h8⟩, _⟩ := I.hok D _ hD
  exact ⟨⟨o, es', ep, h1, h2, h3, h4, fun x hx => ⟨key_is I x.1 _ _ (hk x hx) rfl, h6 x hx⟩, h5⟩, h7, h8⟩
theorem dx_new {P : Program} {w : World} {H : Hp} {h : Heap} {D : Addr} {es : List (NestedKey × Addr × Value)} (m : h.DictOfH (nestedKind P w) D es) (hd : (D == sysModules) = false) (hl : es.length ≤ sizeLine) : ObjOk P w H h D (dxO w D es) := by
  obtain ⟨o, es', ep, h1, h2, h3, h4, h5, h6⟩ := m
  exact ⟨⟨o, es', ep, h1, h2, h3, h4, h6, fun x hx => (h5 x hx).2, hd, hl⟩, ⟨o, h1⟩, fun a b ⟨o, es', ep, g1, g⟩ k => ⟨o, es', ep, k o g1, g⟩⟩
end
end
end Dw
namespace Dw
noncomputable section
open PySem PySem.Spec PyProof.Rows L2
variable [Glo] [Tabs]
def keyU (a b : D) : Bool := decide (nkD a = nkD b)
def okKU (k : D) : Bool := match k with
  | .tup xs => (match nkD (.tup xs) with
    | some q => decide (q.depth ≤ 8)
    | none => false)
  | _ => false
def atU : List D → List D → D → Option D
  | k :: ks, v :: vs, x => if keyU k x = true then some v else atU ks vs x
  | _, _, _ => none
def hasU (ks : List D) (x : D) : Bool := ks.any fun k => keyU k x
theorem okKU_inv {k : D} (h : okKU k = true) : ∃ xs q, k = .tup xs ∧ nkD k = some q ∧ q.depth ≤ 8 := by
  cases k with
  | tup xs =>
    have h : (match nkD (.tup xs) with | some q => decide (q.depth ≤ 8) | none => false) = true := h
    cases hq : nkD (.tup xs) with
    | none => rw [hq] at h; cases h
    | some q => rw [hq] at h; exact ⟨xs, q, rfl, rfl, of_decide_eq_true h⟩
  | _ => cases h
structure UOk (K : PySem.W.Frag) (F : Hp) (es : List (NestedKey × Addr × Value)) (us : List V) (ks vs : List D) : Prop where
  n : ks.map nkD = es.map (fun x => some x.1)
  k : RelAll K F (es.map fun x => .ref x.2.1) ks
  u : Vals us (es.map (·.2.2))
  v : RelAll K F us vs
section
variable {K : PySem.W.Frag} {F F' : Hp}
theorem UOk.up (e : Ex F F') {es us ks vs} (h : UOk K F es us ks vs) : UOk K F' es us ks vs := ⟨h.n, h.k.up e, h.u, h.v.up e⟩
theorem UOk.inv {x : NestedKey × Addr × Value} {es us ks vs} (h : UOk K F (x :: es) us ks vs) : ∃ u us' k ks' v vs', us = u :: us' ∧ ks = k :: ks' ∧ vs = v :: vs' ∧ nkD k = some x.1 ∧ Rel K F (.ref x.2.1) k ∧ RelV u x.2.2 ∧ Rel K F u v ∧ UOk K F es us' ks' vs' := by
  obtain ⟨n, k, u, v⟩ := h
  cases k with
  | @cons _ _ k0 ks' a b =>
    cases u with
    | @cons u0 _ us' _ c d =>
      cases v with
      | @cons _ _ v0 vs' e f =>
        rw [List.map_cons, List.map_cons] at n
        injection n with n1 n2
        exact ⟨u0, us', k0, ks', v0, vs', rfl, rfl, rfl, n1, a, c, e, n2, b, d, f⟩
theorem UOk.nil {us ks vs} (h : UOk K F [] us ks vs) : us = [] ∧ ks = [] ∧ vs = [] := by
  obtain ⟨n, k, u, v⟩ := h
  cases k
  cases u
  cases v
  exact ⟨rfl, rfl, rfl⟩
theorem keyU_dec {a b : D} {p q : NestedKey} (ha : nkD a = some p) (hb : nkD b = some q) : keyU a b = decide (p = q) := by
  unfold keyU
  rw [ha, hb]
  by_cases h : p = q
  · rw [decide_eq_true h, decide_eq_true (by rw [h])]
  · rw [decide_eq_false h, decide_eq_false (fun z => h (Option.some.inj z))]
theorem atKey_cons {x : NestedKey × Addr × Value} {es : List (NestedKey × Addr × Value)} {q : NestedKey} : atKey (x :: es) q = if x.1 = q then some x.2 else atKey es q := by
  unfold atKey
  rw [List.find?_cons]
  by_cases h : x.1 = q
  · rw [decide_eq_true h, if_pos h]; rfl
  · rw [decide_eq_false h, if_neg h]
theorem atU_rel {k : D} {q : NestedKey} (hk : nkD k = some q) : ∀ {es us ks vs}, UOk K F es us ks vs → (atU ks vs k = none ∧ atKey es q = none ∧ hasU ks k = false) ∨ ∃ d a r u, atU ks vs k = some d ∧ atKey es q = some (a, r) ∧ hasU ks k = true ∧ RelV u r ∧ Rel K F u d
  | [], us, ks, vs, h => by
    obtain ⟨rfl, rfl, rfl⟩ := h.nil
    exact .inl ⟨rfl, rfl, rfl⟩
  | x :: es, us, ks, vs, h => by
    obtain ⟨u, us', k0, ks', v, vs', rfl, rfl, rfl, h1, h2, h3, h4, h5⟩ := h.inv
    have e1 : atU (k0 :: ks') (v :: vs') k = if keyU k0 k = true then some v else atU ks' vs' k := rfl
    have e2 : hasU (k0 :: ks') k = (keyU k0 k || hasU ks' k) := rfl
    rw [e1, e2, atKey_cons, keyU_dec h1 hk]
    by_cases c : x.1 = q
    · rw [if_pos c, decide_eq_true c]
      exact .inr ⟨v, x.2.1, x.2.2, u, rfl, rfl, rfl, h3, h4⟩
    · rw [if_neg c, decide_eq_false c, if_neg (by simp), Bool.false_or]
      exact atU_rel hk h5
end
section
variable {K : PySem.W.Frag} {W : WX} {F F' : Hp} {R R' : Fm} {σ : L2.St} {H H' : Hp} {env env' : Sl} {L : Addr} {acc : C} {Q : VK}
theorem UOk.keys (e : Ex F H) : ∀ {es us ks vs}, UOk K F es us ks vs → KeysOk K H es
  | [], _, _, _, _, x, hx => by cases hx
  | y :: es, us, ks, vs, h, x, hx => by
    obtain ⟨u, us', k0, ks', v, vs', rfl, rfl, rfl, h1, h2, h3, h4, h5⟩ := h.inv
    rcases List.mem_cons.mp hx with z | hx
    · subst z; exact rel_key e k0 _ _ h2 h1
    · exact UOk.keys e h5 x hx
theorem UOk.len {es us ks vs} (h : UOk K F es us ks vs) : es.length = ks.length := by
  have := congrArg List.length h.n
  rw [List.length_map, List.length_map] at this
  exact this.symm
end
end
end Dw
namespace Dw
noncomputable section
open PySem PySem.Spec PyProof.Rows L2
variable [Glo] [Tabs]
def idxD (y : D) : List D → Option Nat
  | [] => none
  | x :: xs => if eqB x y = true then some 0 else (idxD y xs).map (· + 1)
def indexLD (x : D) (as : List D) : Option RV := match x, as with
  | .lst xs, [y] => if shp (.lst xs) && shp y then (idxD y xs).map fun j => .d (.int (j : Nat)) else none
  | _, _ => none
theorem idx_py (y : D) : ∀ (xs : List D) (j : Nat), idxD y xs = some j → ∃ z, (pys xs)[j]? = some z ∧ PyData.eqv z (py y) = true ∧ ∀ (m : Nat) (z' : PyData), m < j → (pys xs)[m]? = some z' → PyData.eqv z' (py y) = false
  | [], j, h => by cases h
  | x :: xs, j, h => by
    have h : (if eqB x y = true then some 0 else (idxD y xs).map (· + 1)) = some j := h
    rw [pys]
    by_cases c : eqB x y = true
    · rw [if_pos c] at h
      cases h
      exact ⟨py x, rfl, (eqv_py x y).trans c, fun m _ q => absurd q (Nat.not_lt_zero m)⟩
    · rw [if_neg c, Option.map_eq_some_iff] at h
      obtain ⟨i, hi, rfl⟩ := h
      obtain ⟨z, z1, z2, z3⟩ := idx_py y xs i hi
      refine ⟨z, by rw [List.getElem?_cons_succ]; exact z1, z2, fun m z' q e => ?_⟩
      cases m with
      | zero =>
        have e : some (py x) = some z' := e
        cases e
        rw [eqv_py]
        simpa using c
      | succ m =>
        rw [List.getElem?_cons_succ] at e
        exact z3 m z' (by omega) e
theorem snd_indexLD {K : PySem.W.Frag} : SndM K indexLD (rIndexD K) := by
  intro W F R σ H env Q x v xs vs z S hx hs e p
  match x, xs, e with
  | .lst xs, [y], e =>
    obtain ⟨c, e⟩ : (shp (.lst xs) && shp y) = true ∧ (idxD y xs).map (fun j => RV.d (.int (j : Nat))) = some z := by
      have e : (if (shp (.lst xs) && shp y) = true then (idxD y xs).map (fun j => RV.d (.int (j : Nat))) else none) = some z := e
      by_cases h : (shp (.lst xs) && shp y) = true
      · rw [if_pos h] at e; exact ⟨h, e⟩
      · rw [if_neg h] at e; cases e
    rw [Option.map_eq_some_iff] at e
    obtain ⟨j, hj, rfl⟩ := e
    rw [Bool.and_eq_true] at c
    obtain ⟨w, rfl, hw⟩ := vw1 hs
    have hd := (hx.rel S.sub).dp _ (shp_pl c.1)
    obtain ⟨a, us, rfl, _, _⟩ := hx
    obtain ⟨z, z1, z2, z3⟩ := idx_py y xs j hj
    exact ⟨a, w, py y, pys xs, j, z, rfl, rfl, hd, (hw.rel S.sub).dp _ (shp_pl c.2), c.1, c.2, z1, z2, z3, post_d S p (.int _)⟩
theorem u1_of {u c : Nat} (h : u + 65 < c) : u + 1 < c := by omega
section
variable {X : Cx} {W : WX} {fe fk fv : SE} {elt kx vx tg iter tg1 iter1 : Expr} {ifs ifs1 : List Expr} {fi fi1 : SI} {gt gt1 : Tg} {ft ft1 : Option SE} {vs vs1 : List Nat} {scope : Scope} {own : List (Str × Nat)} {pos : Pos}
theorem pd_lc2 (hch : chainB [⟨tg, iter, ifs, ⟨fi, gt, ft, vs⟩⟩, ⟨tg1, iter1, ifs1, ⟨fi1, gt1, ft1, vs1⟩⟩] = true) (hc : X.calm = true) (hN : X.N.Nodup) (ok : BlkOk X.N X.env.scope scope own) (hv : vs = own.map (·.2)) (hi : PI X tg iter (dI X.K W fi))
    (h0 : InBlk X scope fun B => PG B tg (gT X.K gt) ∧ PTs B ifs (tTD X.K ft)) (h1 : InBlk X scope fun B => PI B tg1 iter1 (dI B.K W0 fi1) ∧ PG B tg1 (gT B.K gt1) ∧ PTs B ifs1 (tTD B.K ft1)) (he : InBlk X scope fun B => PE B elt (dE X.K W0 fe))
    (hs : ∀ x, foldedSetIterable iter X.env x = pure x := by intro _; rfl) (hs1 : ∀ (B : Env) x, foldedSetIterable iter1 B x = pure x := by intro _ _; rfl) :
    PE X (.ListComp elt [⟨tg, iter, ifs, 0⟩, ⟨tg1, iter1, ifs1, 0⟩] scope pos) (dE X.K W (cmpN (emL fe) (.lst []) ⟨fi, gt, ft, vs⟩ [⟨fi1, gt1, ft1, vs1⟩])) :=
  pd_lcN (s := ⟨tg, iter, ifs, ⟨fi, gt, ft, vs⟩⟩) (cs := [⟨tg1, iter1, ifs1, ⟨fi1, gt1, ft1, vs1⟩⟩]) rfl hch hc hN ok hv hi h0 (fun s H C cl fp => let z := h1 s H C cl fp; ⟨⟨z.1, hs1 _, z.2.1, z.2.2⟩, trivial⟩) he hs
theorem pd_dcK1 (hch : chainB [⟨tg, iter, ifs, ⟨fi, gt, ft, vs⟩⟩] = true) (hc : X.calm = true) (hN : X.N.Nodup) (hu : X.A.units + 1 < cLine) (ok : BlkOk X.N X.env.scope scope own) (hv : vs = own.map (·.2)) (hi : PI X tg iter (dI X.K W fi))
    (h0 : InBlk X scope fun B => PG B tg (gT X.K gt) ∧ PTs B ifs (tTD X.K ft)) (hk : InBlk X scope fun B => PE B kx (dE X.K W0 fk)) (he : InBlk X scope fun B => PE B vx (dE X.K W0 fv))
    (hs : ∀ x, foldedSetIterable iter X.env x = pure x := by intro _; rfl) :
    PE X (.DictComp kx vx [⟨tg, iter, ifs, 0⟩] scope pos) (dE X.K W (cmpN (emK fk fv) (.dct [] []) ⟨fi, gt, ft, vs⟩ [])) :=
  pd_dcK (s := ⟨tg, iter, ifs, ⟨fi, gt, ft, vs⟩⟩) (cs := []) rfl hch hc hN hu ok hv hi h0 (fun s H C cl fp => trivial) hk he hs
end
end
end Dw
namespace Dw
noncomputable section
open PySem PySem.Spec PyProof.Rows L2
variable [Glo] [Tabs]
section
variable {env env1 env2 e0 : Sl} {a b : RV} {x y : D} {z : RV} {i j : Nat} {fa fb fc fo fe fk fv : SE} {as : List RV} {fr fs : SA} {xs ys : List D} {r : Option Re} {Q : QE} {E : QX} {R : QE} {B Ct : Sl → Prop} {N : Sl → Prop} {c : Str} {nm f : Str} {m : List SV → Option FR} {dfs : List D} {vs : List SV}
theorem w_prop (h : wE fe env (fun u e1 => wr ((frz u e1).bind fun p => if insOf c p.1 = true then (m [.d p.1]).bind (outD p.2) else none) Q E) E) : wE (propE c m fe) env Q E := wr_bind h
theorem w_prop1 (h : frz a env = some (x, env1)) (hi : insOf c x = true) (q : wC (m [.d x]) env1 Q E) : wr ((frz a env).bind fun p => if insOf c p.1 = true then (m [.d p.1]).bind (outD p.2) else none) Q E := by
  rw [h, Option.bind_some, if_pos hi]; exact wC_wr q
theorem w_meth (h : wE fo env (fun u e1 => wr ((frz u e1).bind fun p => if insNo c nm p.1 = true then
  bindA (fs p.2) fun as env2 => (frzs as env2).bind fun p2 => (m (((p.1 :: p2.1) ++ dfs).map .d)).bind (outD p2.2) else none) Q E) E) : wE (methE c nm m dfs fo fs) env Q E := wr_bind h
theorem w_meth1 (h : frz a env = some (x, env1)) (hi : insNo c nm x = true) (q : wA fs env1 (fun as e2 => wr ((frzs as e2).bind fun p2 => (m (((x :: p2.1) ++ dfs).map .d)).bind (outD p2.2)) Q E) E) : wr ((frz a env).bind fun p => if insNo c nm p.1 = true then
  bindA (fs p.2) fun as env2 => (frzs as env2).bind fun p2 => (m (((p.1 :: p2.1) ++ dfs).map .d)).bind (outD p2.2) else none) Q E := by
  rw [h, Option.bind_some, if_pos hi]; exact wr_bindA q
theorem w_meth2 (h : frzs as env = some (xs, env1)) (he : ((x :: xs) ++ dfs).map SV.d = vs) (q : wC (m vs) env1 Q E) : wr ((frzs as env).bind fun p2 => (m (((x :: p2.1) ++ dfs).map .d)).bind (outD p2.2)) Q E := by
  subst he; rw [h]; exact wC_wr q
def wN (r : Option FR) (env : Sl) (Q : QE) (E : QX) : Prop := wF r (fun u o => ∃ c' rest, u = .d .non ∧ o = .own true c' :: rest ∧ Q (.own c') env) (fun x o => ∃ c' rest, o = .own true c' :: rest ∧ E x env)
theorem w_new (h : wA fs env (fun as e1 => wr ((frzs as e1).bind fun p => (m (.own true (.ins c [] []) :: (p.1 ++ dfs).map .d)).bind (outN p.2)) Q E) E) : wE (newE c m dfs fs) env Q E := wr_bindA h
theorem w_new1 (h : frzs as env = some (xs, env1)) (he : (xs ++ dfs).map SV.d = vs) (q : wN (m (.own true (.ins c [] []) :: vs)) env1 Q E) : wr ((frzs as env).bind fun p => (m (.own true (.ins c [] []) :: (p.1 ++ dfs).map .d)).bind (outN p.2)) Q E := by
  subst he
  rw [h, Option.bind_some]
  unfold wN at q
  cases hr : m (.own true (.ins c [] []) :: (xs ++ dfs).map .d) with
  | none => rw [hr] at q; exact q.elim
  | some r =>
    rw [hr] at q
    cases r with
    | ok u o =>
      obtain ⟨c', rest, rfl, rfl, q⟩ := q
      exact q
    | ex x o =>
      obtain ⟨c', rest, rfl, q⟩ := q
      exact q
def wFd (f : Str) (j : Nat) (u : RV) (e : Sl) (N : Sl → Prop) : Prop := ∃ d e2 b c ns xs ns' xs' e3, frz u e = some (d, e2) ∧ e2[j]? = some (.own b (.ins c ns xs)) ∧ ns.length < 900 ∧ putFn f ns = ns' ∧ putFv f d ns xs = xs' ∧ e2.set j (.own b (.ins c ns' xs')) = e3 ∧ N e3
theorem w_fd {b : Bool} {ns ns' : List Str} {xs' : List D} {N : Sl → Prop} (h1 : frz a env = some (x, env1)) (h2 : env1[j]? = some (.own b (.ins c ns xs))) (h3 : ns.length < 900) (h4 : putFn f ns = ns') (h5 : putFv f x ns xs = xs') (h6 : env1.set j (.own b (.ins c ns' xs')) = env2) (q : N env2) : wFd f j a env N :=
  ⟨x, env1, b, c, ns, xs, ns', xs', env2, h1, h2, h3, h4, h5, h6, q⟩
theorem w_setF (h : wE fe env (fun u e1 => wFd f j u e1 N) E) : wS (setF f j fe) env N ⟨R, B, Ct, E⟩ := wrs_bind (wr_mono h (fun u e1 h => by
  obtain ⟨d, e2, b, c, ns, xs, ns', xs', e3, h1, h2, h3, rfl, rfl, rfl, q⟩ := h
  rw [h1, Option.bind_some]
  dsimp only
  rw [h2]
  show wrs (if ns.length < 900 then some (Out.nx (e2.set j (.own b (.ins c (putFn f ns) (putFv f d ns xs))))) else none) _ _
  rw [if_pos h3]
  exact q) fun _ _ h => h)
theorem pfn_nil : putFn f [] = [f] := rfl
theorem pfn_ne {n : Str} {ns ns' : List Str} (h : ¬ n = f) (q : putFn f ns = ns') : putFn f (n :: ns) = n :: ns' := by subst q; exact if_neg h
theorem pfv_nil : putFv f y [] xs = [y] := by cases xs <;> rfl
theorem pfv_ne {n : Str} {ns : List Str} {xs' : List D} (h : ¬ n = f) (q : putFv f y ns xs = xs') : putFv f y (n :: ns) (x :: xs) = x :: xs' := by subst q; exact if_neg h
abbrev QC := C → Sl → Prop
def wBd (r : Option (C × Sl)) (P : QC) : Prop := ∃ acc e, r = some (acc, e) ∧ P acc e
theorem wBd_mono {r : Option (C × Sl)} {P P' : QC} (h : wBd r P) (hp : ∀ a e, P a e → P' a e) : wBd r P' := by
  obtain ⟨a, e, h1, h2⟩ := h
  exact ⟨a, e, h1, hp _ _ h2⟩
theorem w_cmpN {em : EmD} {a0 : C} {c0 : DCl} {cs : List DCl} (h : wI c0.fi env (fun xs e1 => wBd (turnsN c0 (clsN em cs) xs (clr c0.vs e1) a0) (fun acc e2 => Q (.own acc) (rst c0.vs e1 e2))) E) : wE (cmpN em a0 c0 cs) env Q E := by
  show wr (cmpN em a0 c0 cs env) Q E
  unfold cmpN
  unfold wI at h
  cases hf : c0.fi env with
  | none => rw [hf] at h; exact h.elim
  | some r => rw [hf] at h; cases r with
    | ok xs e1 =>
      obtain ⟨acc, e2, h1, h2⟩ := h
      dsimp only
      rw [h1]
      exact h2
    | ex x e => exact h
theorem wBd_c {em : EmD} {c : DCl} {cs : List DCl} {acc : C} {P : QC} (h : wI c.fi env (fun xs e1 => wBd (turnsN c (clsN em cs) xs (clr c.vs e1) acc) P) nE) : wBd (clsN em (c :: cs) env acc) P := by
  show wBd (match c.fi env with
    | some (.ok xs env1) => turnsN c (clsN em cs) xs (clr c.vs env1) acc
    | _ => none) P
  unfold wI at h
  cases hf : c.fi env with
  | none => rw [hf] at h; exact h.elim
  | some r => rw [hf] at h; cases r with
    | ok xs e1 => exact h
    | ex x e => exact h.elim
theorem wBd_0 {em : EmD} {acc : C} {P : QC} (h : wBd (em env acc) P) : wBd (clsN em [] env acc) P := h
theorem wBd_l {P : QC} (hl : ys.length < 100000) (h : wE fe env (fun u e2 => ∃ y e3, frz u e2 = some (y, e3) ∧ P (.lst (ys ++ [y])) e3) nE) : wBd (emL fe env (.lst ys)) P := by
  obtain ⟨u, e2, h1, y, e3, h2, h3⟩ := wE_get h
  refine ⟨_, _, ?_, h3⟩
  show ((eltD fe env).bind fun p => if ys.length < 100000 then some (C.lst (ys ++ [p.1]), p.2) else none) = _
  unfold eltD
  rw [h1]
  dsimp only
  rw [h2, Option.bind_some, if_pos hl]
theorem wBd_k {ks vs : List D} {P : QC} (hl : ks.length < 100000) (h : wE fk env (fun u e2 => ∃ k, u = .d k ∧ isK k = true ∧ wE fv e2 (fun v e3 => ∃ y e4, frz v e3 = some (y, e4) ∧ P (.dct (putDk ks k) (putDv ks vs k y)) e4) nE) nE) : wBd (emK fk fv env (.dct ks vs)) P := by
  obtain ⟨u, e2, h1, k, rfl, hk, h⟩ := wE_get h
  obtain ⟨v, e3, h2, y, e4, h3, h4⟩ := wE_get h
  refine ⟨_, _, ?_, h4⟩
  unfold emK
  rw [h1]
  dsimp only
  unfold eltD
  rw [h2]
  dsimp only
  rw [h3, Option.bind_some, if_pos ⟨hk, hl⟩]
/-- one turn: from the slots e0 back to e0 -/
def wTn (c : DCl) (body : EmD) (x : D) (e0 : Sl) (acc : C) (P : C → Prop) : Prop := ∃ e1, putT c.tg x e0 = some e1 ∧ wBd (testN c.ft e1 fun b e2 => match b with
  | true => (body e2 acc).map fun p => (p.1, clr c.vs p.2)
  | false => some (acc, clr c.vs e2)) (fun acc' e => e = e0 ∧ P acc')
theorem wBd_map {r : Option (C × Sl)} {P : QC} {vs : List Nat} (h : wBd r (fun a e => P a (clr vs e))) : wBd (r.map fun p => (p.1, clr vs p.2)) P := by
  obtain ⟨a, e, h1, h2⟩ := h
  exact ⟨a, _, by rw [h1]; rfl, h2⟩
theorem wT_n {fi : SI} {tg : Tg} {vs : List Nat} {body : EmD} {acc : C} {P : C → Prop} (h1 : putT tg x e0 = some env1) (h : wBd (body env1 acc) (fun acc' e2 => clr vs e2 = e0 ∧ P acc')) : wTn ⟨fi, tg, none, vs⟩ body x e0 acc P :=
  ⟨env1, h1, wBd_map h⟩
theorem wT_s {fi : SI} {tg : Tg} {vs : List Nat} {body : EmD} {acc : C} {P : C → Prop} (h1 : putT tg x e0 = some env1) (h : wE fc env1 (fun u e2 => wB u e2 (wBd (body e2 acc) (fun acc' e3 => clr vs e3 = e0 ∧ P acc')) (clr vs e2 = e0 ∧ P acc)) nE) : wTn ⟨fi, tg, some fc, vs⟩ body x e0 acc P := by
  obtain ⟨u, e2, h2, t, h3, h4, h5⟩ := wE_get h
  refine ⟨env1, h1, ?_⟩
  show wBd (testN (some fc) env1 _) _
  unfold testN
  dsimp only
  rw [h2]
  dsimp only
  rw [h3, Option.bind_some]
  cases t with
  | true => exact wBd_map (h4 rfl)
  | false =>
    obtain ⟨h6, h7⟩ := h5 rfl
    exact ⟨acc, _, rfl, h6, h7⟩
theorem testN_bind {ft : Option SE} {e : Sl} {k : Bool → Sl → Option (C × Sl)} {g : C × Sl → Option (C × Sl)} : (testN ft e k).bind g = testN ft e fun b e2 => (k b e2).bind g := by
  unfold testN
  cases ft with
  | none => rfl
  | some f =>
    dsimp only
    cases f e with
    | none => rfl
    | some r => cases r with
      | ex x e => rfl
      | ok a e2 =>
        dsimp only
        cases tru a e2 <;> rfl
theorem turns_cons {c : DCl} {body : EmD} {acc acc' : C} (h : ∃ e1, putT c.tg x e0 = some e1 ∧ (testN c.ft e1 fun b e2 => match b with
  | true => (body e2 acc).map fun p => (p.1, clr c.vs p.2)
  | false => some (acc, clr c.vs e2)) = some (acc', env1)) : turnsN c body (x :: xs) e0 acc = turnsN c body xs env1 acc' := by
  obtain ⟨e1, h1, h2⟩ := h
  show (putT c.tg x e0).bind _ = _
  rw [h1, Option.bind_some]
  have := congrArg (fun r => Option.bind r fun p => turnsN c body xs p.2 p.1) h2
  simp only [Option.bind_some] at this
  rw [testN_bind] at this
  rw [← this]
  congr 1
  funext b e2
  cases b with
  | true =>
    dsimp only
    cases body e2 acc <;> rfl
  | false => rfl
theorem w_turns {α : Type} {d : α → D} {l : List α} {c : DCl} {body : EmD} {acc : C} {P : QC} (I : List α → C → Prop) (h0 : I [] acc) (hs : ∀ pre x suf acc, l = pre ++ x :: suf → I pre acc → wTn c body (d x) e0 acc (I (pre ++ [x]))) (hn : ∀ acc, I l acc → P acc e0) : wBd (turnsN c body (l.map d) e0 acc) P := by
  have go : ∀ (suf pre : List α) acc, l = pre ++ suf → I pre acc → wBd (turnsN c body (suf.map d) e0 acc) P := by
    intro suf
    induction suf with
    | nil =>
      intro pre acc h1 h2
      rw [List.append_nil] at h1
      subst h1
      exact ⟨acc, e0, rfl, hn _ h2⟩
    | cons x suf ih =>
      intro pre acc h1 h2
      obtain ⟨e1, g1, acc', e, g2, rfl, g3⟩ := hs pre x suf acc h1 h2
      rw [List.map_cons, turns_cons ⟨e1, g1, g2⟩]
      exact ih (pre ++ [x]) acc' (by rw [h1, List.append_assoc]; rfl) g3
  exact go l [] acc rfl h0
theorem pk_ownI {ns : List Str} {xs : List D} : pk (.own (.ins c ns xs)) env = some (.ins c ns xs) := rfl
theorem pk_cvI {ns : List Str} {xs : List D} {t : Bool} (h : env[i]? = some (.own t (.ins c ns xs))) : pk (.cv i) env = some (.ins c ns xs) := by unfold pk; dsimp only; rw [h]; rfl
theorem frz_ownI {ns : List Str} {xs : List D} : frz (.own (.ins c ns xs)) env = some (.ins c ns xs, env) := rfl
theorem frz_cvI {ns : List Str} {xs : List D} (h : env[i]? = some (.own false (.ins c ns xs))) (h2 : env.set i (.d (.ins c ns xs)) = env1) : frz (.cv i) env = some (.ins c ns xs, env1) := by subst h2; unfold frz; dsimp only; rw [h]; rfl
theorem frz_ownU {ks vs : List D} : frz (.own (.dcu ks vs)) env = some (.dcu ks vs, env) := rfl
theorem frz_cvU {ks vs : List D} (h : env[i]? = some (.own false (.dcu ks vs))) (h2 : env.set i (.d (.dcu ks vs)) = env1) : frz (.cv i) env = some (.dcu ks vs, env1) := by subst h2; unfold frz; dsimp only; rw [h]; rfl
theorem ins_of {ns : List Str} {xs : List D} : insOf c (.ins c ns xs) = true := by
  show (c == c) = true
  exact beq_self_eq_true c
theorem fld_at {ns : List Str} {xs : List D} (h : lookN f ns xs = some x) : fldD f (.ins c ns xs) = some (.d x) := by
  show (lookN f ns xs).map RV.d = _
  rw [h]; rfl
theorem lkN_here {n : Str} {ns : List Str} (h : (f == n) = true) : lookN f (n :: ns) (x :: xs) = some x := if_pos h
theorem lkN_next {n : Str} {ns : List Str} (h : (f == n) = false) (q : lookN f ns xs = some y) : lookN f (n :: ns) (x :: xs) = some y := by
  show (if (f == n) = true then _ else _) = _
  rw [h]; exact q
end
end
end Dw
namespace Dw
end Dw
namespace Dw
noncomputable section
open PySem PySem.Spec PyProof.Rows L2
variable [Glo] [Tabs]
theorem pys_len (xs : List D) : (pys xs).length = xs.length := by
  induction xs with
  | nil => rfl
  | cons x xs ih => rw [pys, List.length_cons, ih, List.length_cons]
end
end Dw
namespace Dw
end Dw
namespace Dw
noncomputable section
open PySem PySem.Spec PyProof.Rows L2
variable [Glo] [Tabs]
def strG : List D → Option RV
  | [.str a] => some (.d (.str a))
  | xs => strC xs
theorem strG_s {a : List Nat} : strG [.str a] = some (.d (.str a)) := rfl
end
end Dw
namespace Dw
noncomputable section
open PySem PySem.Spec PyProof.Rows L2
variable [Glo] [Tabs]
def listH : List D → Option RV
  | [.dct ks _] => some (.own (.lst ks))
  | xs => listG xs
theorem lh_lst {ds : List D} : listH [.lst ds] = some (.own (.lst ds)) := rfl
theorem lh_tup {ds : List D} : listH [.tup ds] = some (.own (.lst ds)) := rfl
theorem lh_dct {ks us : List D} : listH [.dct ks us] = some (.own (.lst ks)) := rfl
def rvE (fo : SE) : SE := fun env => bindE (fo env) fun a env1 => match a with
  | .cv i => (ownL env1[i]?).map fun o => .ok (.d .non) (env1.set i (.own o.1 (.lst o.2.reverse)))
  | _ => none
section
variable {env env2 : Sl} {fo : SE} {i : Nat} {ys : List D} {Q : QE} {E : QX}
theorem w_rv (h : wE fo env (fun u e1 => wr (match u with
  | .cv i => (ownL e1[i]?).map fun o => Re.ok (.d .non) (e1.set i (.own o.1 (.lst o.2.reverse)))
  | _ => none) Q E) E) : wE (rvE fo) env Q E := wr_bind h
theorem w_rv1 {t : Bool} (h : env[i]? = some (.own t (.lst ys))) (h4 : env.set i (.own t (.lst ys.reverse)) = env2) (q : Q (.d .non) env2) : wr (match RV.cv i with
  | .cv i => (ownL env[i]?).map fun o => Re.ok (.d .non) (env.set i (.own o.1 (.lst o.2.reverse)))
  | _ => none) Q E := by
  subst h4
  dsimp only; rw [h]; exact q
end
end
end Dw
namespace Dw
noncomputable section
open PySem PySem.Spec PyProof.Rows L2
variable [Glo] [Tabs]
open PySem.Sem (wp)
theorem SqB.keep {t : Bool} {h h' : Heap} {l : Addr} {xs : Array Value} (q : SqB t h l xs) (e : ∀ o, h.get? l = some o → h'.get? l = some o) : SqB t h' l xs := by
  cases t
  · exact Heap.IsList.at q e
  · exact Heap.IsTuple.at q e
end
end Dw
namespace Dw
noncomputable section
open PySem PySem.Spec PyProof.Rows L2
variable [Glo] [Tabs]
class VR (P : Prop) (Q : outParam Prop) : Prop where h : Q → P
instance i_w_two {env : Dw.Sl} {f : Dw.D → Dw.D → Option Dw.RV} {fa : Dw.SE} {fb : Dw.SE} {Q : Dw.QE} {E : Dw.QX} : VR (Dw.wE (Dw.two (Dw.op2 f) fa fb) env Q E) (Dw.wE fa env (fun (u : Dw.RV) (e1 : Dw.Sl) ↦ Dw.wE fb e1 (fun (v : Dw.RV) (e2 : Dw.Sl) ↦ Dw.wr (Dw.op2 f u v e2) Q E) E) E) := ⟨fun h => Dw.w_two h⟩
instance i_w_one {env : Dw.Sl} {fa : Dw.SE} {Q : Dw.QE} {E : Dw.QX} {g : Dw.D → Option Dw.RV} : VR (Dw.wE (Dw.oneE g fa) env Q E) (Dw.wE fa env (fun (u : Dw.RV) (e1 : Dw.Sl) ↦ Dw.wr ((Dw.pk u e1).bind fun (x : Dw.D) ↦ Option.map (fun (x : Dw.RV) ↦ Dw.Re.ok x e1) (g x)) Q E) E) := ⟨fun h => Dw.w_one h⟩
instance i_w_not {env : Dw.Sl} {fa : Dw.SE} {Q : Dw.QE} {E : Dw.QX} : VR (Dw.wE (Dw.notE fa) env Q E) (Dw.wE fa env (fun (u : Dw.RV) (e1 : Dw.Sl) ↦ Dw.wr (Option.map (fun (b : Bool) ↦ Dw.Re.ok (Dw.RV.d (Dw.D.bl !b)) e1) (Dw.tru u e1)) Q E) E) := ⟨fun h => Dw.w_not h⟩
instance i_w_and {env : Dw.Sl} {fa : Dw.SE} {fb : Dw.SE} {Q : Dw.QE} {E : Dw.QX} : VR (Dw.wE (Dw.andE fa fb) env Q E) (Dw.wE fa env (fun (u : Dw.RV) (e1 : Dw.Sl) ↦ Dw.wB u e1 (Dw.wE fb e1 Q E) (Q u e1)) E) := ⟨fun h => Dw.w_and h⟩
instance i_w_or {env : Dw.Sl} {fa : Dw.SE} {fb : Dw.SE} {Q : Dw.QE} {E : Dw.QX} : VR (Dw.wE (Dw.orE fa fb) env Q E) (Dw.wE fa env (fun (u : Dw.RV) (e1 : Dw.Sl) ↦ Dw.wB u e1 (Q u e1) (Dw.wE fb e1 Q E)) E) := ⟨fun h => Dw.w_or h⟩
instance i_w_ife {env : Dw.Sl} {fa : Dw.SE} {fb : Dw.SE} {fc : Dw.SE} {Q : Dw.QE} {E : Dw.QX} : VR (Dw.wE (Dw.ifE fc fa fb) env Q E) (Dw.wE fc env (fun (u : Dw.RV) (e1 : Dw.Sl) ↦ Dw.wB u e1 (Dw.wE fa e1 Q E) (Dw.wE fb e1 Q E)) E) := ⟨fun h => Dw.w_ife h⟩
instance i_w_nil {env : Dw.Sl} {E : Dw.QX} {QA : List Dw.RV → Dw.Sl → Prop} : VR (Dw.wA Dw.nilA env QA E) (QA [] env) := ⟨fun h => Dw.w_nil h⟩
instance i_w_cons {env : Dw.Sl} {fa : Dw.SE} {fs : Dw.SA} {E : Dw.QX} {QA : List Dw.RV → Dw.Sl → Prop} : VR (Dw.wA (Dw.consA fa fs) env QA E) (Dw.wE fa env (fun (u : Dw.RV) (e1 : Dw.Sl) ↦ Dw.wA fs e1 (fun (as : List Dw.RV) (e2 : Dw.Sl) ↦ QA (u :: as) e2) E) E) := ⟨fun h => Dw.w_cons h⟩
instance i_w_callE {env : Dw.Sl} {fs : Dw.SA} {Q : Dw.QE} {E : Dw.QX} {g : List Dw.D → Option Dw.RV} : VR (Dw.wE (Dw.callE g fs) env Q E) (Dw.wA fs env (fun (as : List Dw.RV) (e1 : Dw.Sl) ↦ Dw.wr ((Dw.pks as e1).bind fun (xs : List Dw.D) ↦ Option.map (fun (x : Dw.RV) ↦ Dw.Re.ok x e1) (g xs)) Q E) E) := ⟨fun h => Dw.w_callE h⟩
instance i_w_isi {env : Dw.Sl} {fa : Dw.SE} {Q : Dw.QE} {E : Dw.QX} {n : String} : VR (Dw.wE (Dw.isiE n fa) env Q E) (Dw.wE fa env (fun (u : Dw.RV) (e1 : Dw.Sl) ↦ Dw.wr ((Dw.pk u e1).bind fun (x : Dw.D) ↦ if Dw.okI x = Bool.true then Option.some (Dw.Re.ok (Dw.RV.d (Dw.D.bl (Dw.isiD n x))) e1) else Option.none) Q E) E) := ⟨fun h => Dw.w_isi h⟩
instance i_w_tup {env : Dw.Sl} {fs : Dw.SA} {Q : Dw.QE} {E : Dw.QX} : VR (Dw.wE (Dw.tupE fs) env Q E) (Dw.wA fs env (fun (as : List Dw.RV) (e1 : Dw.Sl) ↦ Dw.wr ((Dw.frzs as e1).bind fun (p : List Dw.D × Dw.Sl) ↦ if p.fst.length ≤ 100000 then Option.some (Dw.Re.ok (Dw.RV.d (Dw.D.tup p.fst)) p.snd) else Option.none) Q E) E) := ⟨fun h => Dw.w_tup h⟩
instance i_w_lst {env : Dw.Sl} {fs : Dw.SA} {Q : Dw.QE} {E : Dw.QX} : VR (Dw.wE (Dw.lstE fs) env Q E) (Dw.wA fs env (fun (as : List Dw.RV) (e1 : Dw.Sl) ↦ Dw.wr ((Dw.frzs as e1).bind fun (p : List Dw.D × Dw.Sl) ↦ if p.fst.length ≤ 100000 then Option.some (Dw.Re.ok (Dw.RV.own (Dw.C.lst p.fst)) p.snd) else Option.none) Q E) E) := ⟨fun h => Dw.w_lst h⟩
instance i_w_met {env : Dw.Sl} {fo : Dw.SE} {fs : Dw.SA} {Q : Dw.QE} {E : Dw.QX} {T : String} {g : Dw.D → List Dw.D → Option Dw.RV} : VR (Dw.wE (Dw.metE T g fo fs) env Q E) (Dw.wE fo env (fun (u : Dw.RV) (e1 : Dw.Sl) ↦ Dw.wr ((Dw.pk u e1).bind fun (x0 : Dw.D) ↦ if Dw.tyD x0 = T then Dw.bindA (fs e1) fun (as : List Dw.RV) (env2 : Dw.Sl) ↦ (Dw.pk u env2).bind fun (x : Dw.D) ↦ (Dw.pks as env2).bind fun (xs : List Dw.D) ↦ Option.map (fun (x : Dw.RV) ↦ Dw.Re.ok x env2) (g x xs) else Option.none) Q E) E) := ⟨fun h => Dw.w_met h⟩
instance i_w_callD {env : Dw.Sl} {fs : Dw.SA} {Q : Dw.QE} {E : Dw.QX} {m : List Dw.SV → Option Dw.FR} {ds : List Dw.D} : VR (Dw.wE (Dw.callD m ds fs) env Q E) (Dw.wA fs env (fun (as : List Dw.RV) (e1 : Dw.Sl) ↦ Dw.wr ((Dw.frzs as e1).bind fun (p : List Dw.D × Dw.Sl) ↦ (m (List.map Dw.SV.d (p.fst ++ ds))).bind (Dw.outD p.snd)) Q E) E) := ⟨fun h => Dw.w_callD h⟩
instance i_w_callD0 {env : Dw.Sl} {Q : Dw.QE} {E : Dw.QX} {m : List Dw.SV → Option Dw.FR} {ds : List Dw.D} : VR (Dw.wE (Dw.callD0 m ds) env Q E) (Dw.wC (m (List.map Dw.SV.d ds)) env Q E) := ⟨fun h => Dw.w_callD0 h⟩
instance i_w_sl {env : Dw.Sl} {fe : Dw.SE} {Q : Dw.QE} {E : Dw.QX} {fl : Option Dw.SE} {fh : Option Dw.SE} : VR (Dw.wE (Dw.sliceE fe fl fh) env Q E) (Dw.wE fe env (fun (u : Dw.RV) (e1 : Dw.Sl) ↦ Dw.wr (Dw.bindO fl e1 fun (lo : Option Int) (env2 : Dw.Sl) ↦ Dw.bindO fh env2 fun (hi : Option Int) (env3 : Dw.Sl) ↦ (Dw.pk u env3).bind fun (x : Dw.D) ↦ Option.map (fun (x : Dw.RV) ↦ Dw.Re.ok x env3) (Dw.cutD x lo hi)) Q E) E) := ⟨fun h => Dw.w_sl h⟩
instance i_w_comp {env : Dw.Sl} {fe : Dw.SE} {Q : Dw.QE} {E : Dw.QX} {vs : List Nat} {fi : Dw.SI} {tg : Dw.Tg} {ft : Option Dw.SE} : VR (Dw.wE (Dw.compE vs fi tg ft fe) env Q E) (Dw.wI fi env (fun (xs : List Dw.D) (e1 : Dw.Sl) ↦ Dw.wr (Option.map (fun (p : List Dw.D × Dw.Sl) ↦ Dw.Re.ok (Dw.RV.own (Dw.C.lst p.fst)) (Dw.rst vs e1 p.snd)) (Dw.compD vs tg ft fe xs [] (Dw.clr vs e1))) Q E) E) := ⟨fun h => Dw.w_comp h⟩
instance i_w_src {env : Dw.Sl} {fe : Dw.SE} {E : Dw.QX} {QI : List Dw.D → Dw.Sl → Prop} : VR (Dw.wI (Dw.srcE fe) env QI E) (Dw.wE fe env (fun (u : Dw.RV) (e1 : Dw.Sl) ↦ Dw.wri ((Dw.frz u e1).bind fun (p : Dw.D × Dw.Sl) ↦ Option.map (fun (xs : List Dw.D) ↦ Dw.ReI.ok xs p.snd) (Dw.itemsD p.fst)) QI E) E) := ⟨fun h => Dw.w_src h⟩
instance i_w_args {env : Dw.Sl} {fs : Dw.SA} {E : Dw.QX} {QI : List Dw.D → Dw.Sl → Prop} {g : List Dw.D → Option (List Dw.D)} : VR (Dw.wI (Dw.argsI g fs) env QI E) (Dw.wA fs env (fun (as : List Dw.RV) (e1 : Dw.Sl) ↦ Dw.wri ((Dw.pks as e1).bind fun (xs : List Dw.D) ↦ Option.map (fun (ys : List Dw.D) ↦ Dw.ReI.ok ys e1) (g xs)) QI E) E) := ⟨fun h => Dw.w_args h⟩
instance i_w_seq {env : Dw.Sl} {f : Dw.SS} {g : Dw.SS} {N : Dw.Sl → Prop} {k : Dw.Ks} : VR (Dw.wS (Dw.seqS f g) env N k) (Dw.wS f env (fun (e : Dw.Sl) ↦ Dw.wS g e N k) k) := ⟨fun h => Dw.w_seq h⟩
instance i_w_skip {env : Dw.Sl} {N : Dw.Sl → Prop} {k : Dw.Ks} : VR (Dw.wS Dw.skipS env N k) (N env) := ⟨fun h => Dw.w_skip h⟩
instance i_w_asg {env : Dw.Sl} {fe : Dw.SE} {i : Nat} {N : Dw.Sl → Prop} {R : Dw.QE} {B : Dw.Sl → Prop} {Ct : Dw.Sl → Prop} {E : Dw.QX} : VR (Dw.wS (Dw.asgS i fe) env N { rt := R, bk := B, ct := Ct, ex := E }) (Dw.wE fe env (fun (u : Dw.RV) (e1 : Dw.Sl) ↦ Dw.wSt i u e1 N) E) := ⟨fun h => Dw.w_asg h⟩
instance i_w_expr {env : Dw.Sl} {fe : Dw.SE} {N : Dw.Sl → Prop} {R : Dw.QE} {B : Dw.Sl → Prop} {Ct : Dw.Sl → Prop} {E : Dw.QX} : VR (Dw.wS (Dw.exprS fe) env N { rt := R, bk := B, ct := Ct, ex := E }) (Dw.wE fe env (fun (x : Dw.RV) (e1 : Dw.Sl) ↦ N e1) E) := ⟨fun h => Dw.w_expr h⟩
instance i_w_ret {env : Dw.Sl} {fe : Dw.SE} {N : Dw.Sl → Prop} {R : Dw.QE} {B : Dw.Sl → Prop} {Ct : Dw.Sl → Prop} {E : Dw.QX} : VR (Dw.wS (Dw.retS fe) env N { rt := R, bk := B, ct := Ct, ex := E }) (Dw.wE fe env R E) := ⟨fun h => Dw.w_ret h⟩
instance i_w_retN {env : Dw.Sl} {N : Dw.Sl → Prop} {R : Dw.QE} {B : Dw.Sl → Prop} {Ct : Dw.Sl → Prop} {E : Dw.QX} : VR (Dw.wS Dw.retNS env N { rt := R, bk := B, ct := Ct, ex := E }) (R (Dw.RV.d Dw.D.non) env) := ⟨fun h => Dw.w_retN h⟩
instance i_w_brk {env : Dw.Sl} {N : Dw.Sl → Prop} {R : Dw.QE} {B : Dw.Sl → Prop} {Ct : Dw.Sl → Prop} {E : Dw.QX} : VR (Dw.wS Dw.breakS env N { rt := R, bk := B, ct := Ct, ex := E }) (B env) := ⟨fun h => Dw.w_brk h⟩
instance i_w_cnt {env : Dw.Sl} {N : Dw.Sl → Prop} {R : Dw.QE} {B : Dw.Sl → Prop} {Ct : Dw.Sl → Prop} {E : Dw.QX} : VR (Dw.wS Dw.contS env N { rt := R, bk := B, ct := Ct, ex := E }) (Ct env) := ⟨fun h => Dw.w_cnt h⟩
instance i_w_ite {env : Dw.Sl} {f : Dw.SS} {g : Dw.SS} {fc : Dw.SE} {N : Dw.Sl → Prop} {R : Dw.QE} {B : Dw.Sl → Prop} {Ct : Dw.Sl → Prop} {E : Dw.QX} : VR (Dw.wS (Dw.iteS fc f g) env N { rt := R, bk := B, ct := Ct, ex := E }) (Dw.wE fc env (fun (u : Dw.RV) (e1 : Dw.Sl) ↦ Dw.wB u e1 (Dw.wS f e1 N { rt := R, bk := B, ct := Ct, ex := E }) (Dw.wS g e1 N { rt := R, bk := B, ct := Ct, ex := E })) E) := ⟨fun h => Dw.w_ite h⟩
instance i_w_for {env : Dw.Sl} {tg : Dw.Tg} {body : Dw.SS} {fi : Dw.SI} {N : Dw.Sl → Prop} {R : Dw.QE} {B : Dw.Sl → Prop} {Ct : Dw.Sl → Prop} {E : Dw.QX} : VR (Dw.wS (Dw.forS fi tg body) env N { rt := R, bk := B, ct := Ct, ex := E }) (Dw.wI fi env (fun (xs : List Dw.D) (e1 : Dw.Sl) ↦ Dw.wS (Dw.loopD tg body xs) e1 N { rt := R, bk := B, ct := Ct, ex := E }) E) := ⟨fun h => Dw.w_for h⟩
instance i_w_setL {env : Dw.Sl} {fe : Dw.SE} {N : Dw.Sl → Prop} {R : Dw.QE} {B : Dw.Sl → Prop} {Ct : Dw.Sl → Prop} {E : Dw.QX} {j : Nat} {fi : Dw.SE} : VR (Dw.wS (Dw.setL j fi fe) env N { rt := R, bk := B, ct := Ct, ex := E }) (Dw.wE fe env (fun (u : Dw.RV) (e1 : Dw.Sl) ↦ ∃ (d : Dw.D), ∃ (e2 : Dw.Sl), ∃ (t : Bool), ∃ (ys : List Dw.D), Dw.frz u e1 = Option.some (d, e2) ∧ e2[j]? = Option.some (Dw.SV.own t (Dw.C.lst ys)) ∧ Dw.wE fi e2 (fun (v : Dw.RV) (e3 : Dw.Sl) ↦ ∃ (n : Int), ∃ (m : Nat), ∃ (t' : Bool), ∃ (ys' : List Dw.D), ∃ (e4 : List Dw.SV), Dw.pk v e3 = Option.some (Dw.D.int n) ∧ e3[j]? = Option.some (Dw.SV.own t' (Dw.C.lst ys')) ∧ L2.ixN ys'.length n = Option.some m ∧ List.set e3 j (Dw.SV.own t' (Dw.C.lst (ys'.set m d))) = e4 ∧ N e4) E) E) := ⟨fun h => Dw.w_setL h⟩
instance i_w_asgT {env : Dw.Sl} {fe : Dw.SE} {tg : Dw.Tg} {N : Dw.Sl → Prop} {R : Dw.QE} {B : Dw.Sl → Prop} {Ct : Dw.Sl → Prop} {E : Dw.QX} : VR (Dw.wS (Dw.asgT tg fe) env N { rt := R, bk := B, ct := Ct, ex := E }) (Dw.wE fe env (fun (u : Dw.RV) (e1 : Dw.Sl) ↦ Dw.wTu tg u e1 N) E) := ⟨fun h => Dw.w_asgT h⟩
instance i_w_star {env : Dw.Sl} {fa : Dw.SE} {fr : Dw.SA} {E : Dw.QX} {QA : List Dw.RV → Dw.Sl → Prop} : VR (Dw.wA (Dw.starA fa fr) env QA E) (Dw.wE fa env (fun (a : Dw.RV) (e1 : Dw.Sl) ↦ Dw.wStar a e1 fun (xs : List Dw.D) ↦ Dw.wA fr e1 (fun (as : List Dw.RV) (e2 : Dw.Sl) ↦ QA (List.map Dw.RV.d xs ++ as) e2) E) E) := ⟨fun h => Dw.w_star h⟩
instance i_w_prop {env : Dw.Sl} {fe : Dw.SE} {Q : Dw.QE} {E : Dw.QX} {c : PySem.Str} {m : List Dw.SV → Option Dw.FR} : VR (Dw.wE (Dw.propE c m fe) env Q E) (Dw.wE fe env (fun (u : Dw.RV) (e1 : Dw.Sl) ↦ Dw.wr ((Dw.frz u e1).bind fun (p : Dw.D × Dw.Sl) ↦ if Dw.insOf c p.fst = Bool.true then (m [Dw.SV.d p.fst]).bind (Dw.outD p.snd) else Option.none) Q E) E) := ⟨fun h => Dw.w_prop h⟩
instance i_w_meth {env : Dw.Sl} {fo : Dw.SE} {fs : Dw.SA} {Q : Dw.QE} {E : Dw.QX} {c : PySem.Str} {nm : PySem.Str} {m : List Dw.SV → Option Dw.FR} {dfs : List Dw.D} : VR (Dw.wE (Dw.methE c nm m dfs fo fs) env Q E) (Dw.wE fo env (fun (u : Dw.RV) (e1 : Dw.Sl) ↦ Dw.wr ((Dw.frz u e1).bind fun (p : Dw.D × Dw.Sl) ↦ if Dw.insNo c nm p.fst = Bool.true then Dw.bindA (fs p.snd) fun (as : List Dw.RV) (env2 : Dw.Sl) ↦ (Dw.frzs as env2).bind fun (p2 : List Dw.D × Dw.Sl) ↦ (m (List.map Dw.SV.d (p.fst :: p2.fst ++ dfs))).bind (Dw.outD p2.snd) else Option.none) Q E) E) := ⟨fun h => Dw.w_meth h⟩
instance i_w_new {env : Dw.Sl} {fs : Dw.SA} {Q : Dw.QE} {E : Dw.QX} {c : PySem.Str} {m : List Dw.SV → Option Dw.FR} {dfs : List Dw.D} : VR (Dw.wE (Dw.newE c m dfs fs) env Q E) (Dw.wA fs env (fun (as : List Dw.RV) (e1 : Dw.Sl) ↦ Dw.wr ((Dw.frzs as e1).bind fun (p : List Dw.D × Dw.Sl) ↦ (m (Dw.SV.own Bool.true (Dw.C.ins c [] []) :: List.map Dw.SV.d (p.fst ++ dfs))).bind (Dw.outN p.snd)) Q E) E) := ⟨fun h => Dw.w_new h⟩
instance i_w_setF {env : Dw.Sl} {j : Nat} {fe : Dw.SE} {E : Dw.QX} {R : Dw.QE} {B : Dw.Sl → Prop} {Ct : Dw.Sl → Prop} {N : Dw.Sl → Prop} {f : PySem.Str} : VR (Dw.wS (Dw.setF f j fe) env N { rt := R, bk := B, ct := Ct, ex := E }) (Dw.wE fe env (fun (u : Dw.RV) (e1 : Dw.Sl) ↦ Dw.wFd f j u e1 N) E) := ⟨fun h => Dw.w_setF h⟩
instance i_w_cmpN {env : Dw.Sl} {Q : Dw.QE} {E : Dw.QX} {em : Dw.EmD} {a0 : Dw.C} {c0 : Dw.DCl} {cs : List Dw.DCl} : VR (Dw.wE (Dw.cmpN em a0 c0 cs) env Q E) (Dw.wI c0.fi env (fun (xs : List Dw.D) (e1 : Dw.Sl) ↦ Dw.wBd (Dw.turnsN c0 (Dw.clsN em cs) xs (Dw.clr c0.vs e1) a0) fun (acc : Dw.C) (e2 : Dw.Sl) ↦ Q (Dw.RV.own acc) (Dw.rst c0.vs e1 e2)) E) := ⟨fun h => Dw.w_cmpN h⟩
instance i_w_const {env : Dw.Sl} {x : Dw.D} {Q : Dw.QE} {E : Dw.QX} : VR (Dw.wE (Dw.constE x) env Q E) (Q (Dw.RV.d x) env) := ⟨fun h => Dw.w_const h⟩
instance i_w_lenSet {fe : Dw.SE} {env : Dw.Sl} {Q : Dw.QE} {E : Dw.QX} : VR (Dw.wE (Dw.lenSetE fe) env Q E) (Dw.wE fe env (fun (u : Dw.RV) (e1 : Dw.Sl) ↦ Dw.wr (Option.map (fun (n : Nat) ↦ Dw.Re.ok (Dw.RV.d (Dw.D.int ↑n)) e1) ((Dw.pk u e1).bind Dw.setLenD)) Q E) E) := ⟨fun h => Dw.w_lenSet h⟩
class EvR {α : Type} (o : Option α) (z : outParam α) : Prop where h : o = some z
class SetR {α : Type} (e : List α) (i : Nat) (v : α) (e' : outParam (List α)) : Prop where h : e.set i v = e'
class MapR (xs ds : List D) (vs : outParam (List SV)) : Prop where h : (xs ++ ds).map SV.d = vs
class RepR (as : List SV) (n : Nat) (l : outParam (List SV)) : Prop where h : as ++ List.replicate n SV.un = l
class FreeR (s : SV) : Prop where h : freeSlot (some s) = true
instance e_add_int' {i : Int} {j : Int} : EvR (Dw.addD (Dw.D.int i) (Dw.D.int j)) (Dw.RV.d (Dw.D.int (i + j))) := ⟨Dw.add_int'⟩
instance e_cut_lst {xs : List Dw.D} {lo : Option Int} {hi : Option Int} : EvR (Dw.cutD (Dw.D.lst xs) lo hi) (Dw.RV.own (Dw.C.lst (Dw.cutL xs lo hi))) := ⟨Dw.cut_lst⟩
instance e_cut_tup {xs : List Dw.D} {lo : Option Int} {hi : Option Int} : EvR (Dw.cutD (Dw.D.tup xs) lo hi) (Dw.RV.d (Dw.D.tup (Dw.cutL xs lo hi))) := ⟨Dw.cut_tup⟩
instance e_eq_bl {a : Bool} {b : Bool} : EvR (Dw.eqD (Dw.D.bl a) (Dw.D.bl b)) (Dw.RV.d (Dw.D.bl (a == b))) := ⟨Dw.eq_bl⟩
instance e_eq_int {i : Int} {j : Int} : EvR (Dw.eqD (Dw.D.int i) (Dw.D.int j)) (Dw.RV.d (Dw.D.bl (i == j))) := ⟨Dw.eq_int⟩
instance e_eq_str {x : List Nat} {y : List Nat} : EvR (Dw.eqD (Dw.D.str x) (Dw.D.str y)) (Dw.RV.d (Dw.D.bl (x == y))) := ⟨Dw.eq_str⟩
instance e_frz_d {env : Dw.Sl} {x : Dw.D} : EvR (Dw.frz (Dw.RV.d x) env) ((x, env)) := ⟨Dw.frz_d⟩
instance e_frz_own {env : Dw.Sl} {xs : List Dw.D} : EvR (Dw.frz (Dw.RV.own (Dw.C.lst xs)) env) ((Dw.D.lst xs, env)) := ⟨Dw.frz_own⟩
instance e_frz_ownI {env : Dw.Sl} {c : PySem.Str} {ns : List PySem.Str} {xs : List Dw.D} : EvR (Dw.frz (Dw.RV.own (Dw.C.ins c ns xs)) env) ((Dw.D.ins c ns xs, env)) := ⟨Dw.frz_ownI⟩
instance e_frz_ownK {env : Dw.Sl} {ks : List Dw.D} {vs : List Dw.D} : EvR (Dw.frz (Dw.RV.own (Dw.C.dct ks vs)) env) ((Dw.D.dct ks vs, env)) := ⟨Dw.frz_ownK⟩
instance e_frz_ownU {env : Dw.Sl} {ks : List Dw.D} {vs : List Dw.D} : EvR (Dw.frz (Dw.RV.own (Dw.C.dcu ks vs)) env) ((Dw.D.dcu ks vs, env)) := ⟨Dw.frz_ownU⟩
instance e_frzs_nil {env : Dw.Sl} : EvR (Dw.frzs [] env) (([], env)) := ⟨Dw.frzs_nil⟩
instance e_ge_int' {i : Int} {j : Int} : EvR (Dw.geD (Dw.D.int i) (Dw.D.int j)) (Dw.RV.d (Dw.D.bl (Decidable.decide (j ≤ i)))) := ⟨Dw.ge_int'⟩
instance e_gt_int' {i : Int} {j : Int} : EvR (Dw.gtD (Dw.D.int i) (Dw.D.int j)) (Dw.RV.d (Dw.D.bl (Decidable.decide (j < i)))) := ⟨Dw.gt_int'⟩
instance e_int_bl {a : Bool} : EvR (Dw.intC [Dw.D.bl a]) (Dw.RV.d (Dw.D.int (PyProof.Rows.b2i a))) := ⟨Dw.int_bl⟩
instance e_int_int {i : Int} : EvR (Dw.intC [Dw.D.int i]) (Dw.RV.d (Dw.D.int i)) := ⟨Dw.int_int⟩
instance e_it_lst {ds : List Dw.D} : EvR (Dw.itemsD (Dw.D.lst ds)) (ds) := ⟨Dw.it_lst⟩
instance e_it_str {x : List Nat} : EvR (Dw.itemsD (Dw.D.str x)) (List.map (fun (c : Nat) ↦ Dw.D.str [c]) x) := ⟨Dw.it_str⟩
instance e_it_tup {ds : List Dw.D} : EvR (Dw.itemsD (Dw.D.tup ds)) (ds) := ⟨Dw.it_tup⟩
instance e_le_int' {i : Int} {j : Int} : EvR (Dw.leD (Dw.D.int i) (Dw.D.int j)) (Dw.RV.d (Dw.D.bl (Decidable.decide (i ≤ j)))) := ⟨Dw.le_int'⟩
instance e_len_lst {x : List Dw.D} : EvR (Dw.lenD [Dw.D.lst x]) (Dw.RV.d (Dw.D.int ↑x.length)) := ⟨Dw.len_lst⟩
instance e_len_tup {x : List Dw.D} : EvR (Dw.lenD [Dw.D.tup x]) (Dw.RV.d (Dw.D.int ↑x.length)) := ⟨Dw.len_tup⟩
instance e_lg_lst {ds : List Dw.D} : EvR (Dw.listG [Dw.D.lst ds]) (Dw.RV.own (Dw.C.lst ds)) := ⟨Dw.lg_lst⟩
instance e_lg_tup {ds : List Dw.D} : EvR (Dw.listG [Dw.D.tup ds]) (Dw.RV.own (Dw.C.lst ds)) := ⟨Dw.lg_tup⟩
instance e_lh_dct {ks : List Dw.D} {us : List Dw.D} : EvR (Dw.listH [Dw.D.dct ks us]) (Dw.RV.own (Dw.C.lst ks)) := ⟨Dw.lh_dct⟩
instance e_lh_lst {ds : List Dw.D} : EvR (Dw.listH [Dw.D.lst ds]) (Dw.RV.own (Dw.C.lst ds)) := ⟨Dw.lh_lst⟩
instance e_lh_tup {ds : List Dw.D} : EvR (Dw.listH [Dw.D.tup ds]) (Dw.RV.own (Dw.C.lst ds)) := ⟨Dw.lh_tup⟩
instance e_look_place {x : PySem.Str} {d : Dw.D} : EvR (List.lookup (PySem.Str.ofString "place") (Dw.xnOf x d).fs) (d) := ⟨Dw.look_place⟩
instance e_look_word {x : PySem.Str} {d : Dw.D} : EvR (List.lookup (PySem.Str.ofString "word") (Dw.xnOf x d).fs) (Dw.D.str x.cps.toList) := ⟨Dw.look_word⟩
instance e_lt_int' {i : Int} {j : Int} : EvR (Dw.ltG (Dw.D.int i) (Dw.D.int j)) (Dw.RV.d (Dw.D.bl (Decidable.decide (i < j)))) := ⟨Dw.lt_int'⟩
instance e_lt_str' {x : List Nat} {y : List Nat} : EvR (Dw.ltG (Dw.D.str x) (Dw.D.str y)) (Dw.RV.d (Dw.D.bl (Decidable.decide (x < y)))) := ⟨Dw.lt_str'⟩
instance e_ne_bl {a : Bool} {b : Bool} : EvR (Dw.neD (Dw.D.bl a) (Dw.D.bl b)) (Dw.RV.d (Dw.D.bl !a == b)) := ⟨Dw.ne_bl⟩
instance e_ne_int {i : Int} {j : Int} : EvR (Dw.neD (Dw.D.int i) (Dw.D.int j)) (Dw.RV.d (Dw.D.bl !i == j)) := ⟨Dw.ne_int⟩
instance e_ne_str {x : List Nat} {y : List Nat} : EvR (Dw.neD (Dw.D.str x) (Dw.D.str y)) (Dw.RV.d (Dw.D.bl !x == y)) := ⟨Dw.ne_str⟩
instance e_neg_int' {i : Int} : EvR (Dw.negD (Dw.D.int i)) (Dw.RV.d (Dw.D.int (-i))) := ⟨Dw.neg_int'⟩
instance e_ord_str {c : Nat} : EvR (Dw.ordC [Dw.D.str [c]]) (Dw.RV.d (Dw.D.int ↑c)) := ⟨Dw.ord_str⟩
instance e_pk_d {env : Dw.Sl} {x : Dw.D} : EvR (Dw.pk (Dw.RV.d x) env) (x) := ⟨Dw.pk_d⟩
instance e_pk_own {env : Dw.Sl} {xs : List Dw.D} : EvR (Dw.pk (Dw.RV.own (Dw.C.lst xs)) env) (Dw.D.lst xs) := ⟨Dw.pk_own⟩
instance e_pk_ownI {env : Dw.Sl} {c : PySem.Str} {ns : List PySem.Str} {xs : List Dw.D} : EvR (Dw.pk (Dw.RV.own (Dw.C.ins c ns xs)) env) (Dw.D.ins c ns xs) := ⟨Dw.pk_ownI⟩
instance e_pk_ownK {env : Dw.Sl} {ks : List Dw.D} {vs : List Dw.D} : EvR (Dw.pk (Dw.RV.own (Dw.C.dct ks vs)) env) (Dw.D.dct ks vs) := ⟨Dw.pk_ownK⟩
instance e_pks_nil {env : Dw.Sl} : EvR (Dw.pks [] env) ([]) := ⟨Dw.pks_nil⟩
instance e_put_tnil {e : Dw.Sl} : EvR (Dw.putT Dw.Tg.nil (Dw.D.tup []) e) (e) := ⟨Dw.put_tnil⟩
instance e_res_d {x : Dw.D} {e : Dw.Sl} : EvR (Dw.resV (Dw.RV.d x) e) (Dw.RV.d x) := ⟨Dw.res_d⟩
instance e_res_own {c : Dw.C} {e : Dw.Sl} : EvR (Dw.resV (Dw.RV.own c) e) (Dw.RV.own c) := ⟨Dw.res_own⟩
instance e_ret_d {x : Dw.D} : EvR (Dw.retV (Dw.RV.d x)) (Dw.RV.d x) := ⟨Dw.ret_d⟩
instance e_ret_own {c : Dw.C} : EvR (Dw.retV (Dw.RV.own c)) (Dw.RV.own c) := ⟨Dw.ret_own⟩
instance e_st_lst {xs : List Dw.D} : EvR (Dw.starL (Dw.D.lst xs)) (xs) := ⟨Dw.st_lst⟩
instance e_st_tup {xs : List Dw.D} : EvR (Dw.starL (Dw.D.tup xs)) (xs) := ⟨Dw.st_tup⟩
instance e_strG_s {a : List Nat} : EvR (Dw.strG [Dw.D.str a]) (Dw.RV.d (Dw.D.str a)) := ⟨Dw.strG_s⟩
instance e_sub_int' {i : Int} {j : Int} : EvR (Dw.subD (Dw.D.int i) (Dw.D.int j)) (Dw.RV.d (Dw.D.int (i - j))) := ⟨Dw.sub_int'⟩
instance e_tru_bl {env : Dw.Sl} {t : Bool} : EvR (Dw.tru (Dw.RV.d (Dw.D.bl t)) env) (t) := ⟨Dw.tru_bl⟩
instance e_tru_int {i : Int} {e : Dw.Sl} : EvR (Dw.tru (Dw.RV.d (Dw.D.int i)) e) (i != 0) := ⟨Dw.tru_int⟩
instance e_tru_lst {x : List Dw.D} {e : Dw.Sl} : EvR (Dw.tru (Dw.RV.d (Dw.D.lst x)) e) (!x.isEmpty) := ⟨Dw.tru_lst⟩
instance e_tru_non {e : Dw.Sl} : EvR (Dw.tru (Dw.RV.d Dw.D.non) e) (Bool.false) := ⟨Dw.tru_non⟩
instance e_tru_ownl {x : List Dw.D} {e : Dw.Sl} : EvR (Dw.tru (Dw.RV.own (Dw.C.lst x)) e) (!x.isEmpty) := ⟨Dw.tru_ownl⟩
instance e_tru_tup {x : List Dw.D} {e : Dw.Sl} : EvR (Dw.tru (Dw.RV.d (Dw.D.tup x)) e) (!x.isEmpty) := ⟨Dw.tru_tup⟩
instance e_tup_lst {ds : List Dw.D} : EvR (Dw.tupleC [Dw.D.lst ds]) (Dw.RV.d (Dw.D.tup ds)) := ⟨Dw.tup_lst⟩
instance e_tup_tup {ds : List Dw.D} : EvR (Dw.tupleC [Dw.D.tup ds]) (Dw.RV.d (Dw.D.tup ds)) := ⟨Dw.tup_tup⟩
section
variable {α : Type} {s t : α} {e e' : List α} {n : Nat}
instance at_z : EvR ((s :: e)[0]?) s := ⟨rfl⟩
instance at_s [h : EvR (e[n]?) s] : EvR ((t :: e)[n + 1]?) s := ⟨by rw [List.getElem?_cons_succ]; exact h.h⟩
instance sr_z : SetR (s :: e) 0 t (t :: e) := ⟨rfl⟩
instance sr_s [h : SetR e n t e'] : SetR (s :: e) (n + 1) t (s :: e') := ⟨setg_s h.h⟩
end
section
variable {env env1 env2 e o : Sl} {a b : RV} {x y : D} {i : Nat} {xs ys ds ks vs : List D} {as : List RV} {c : C} {t : Bool} {s : SV} {ns : List Str} {w : Str} {n : Nat} {g gs : Tg} {vv l : List SV}
instance fr_u : FreeR .un := ⟨rfl⟩
instance fr_d : FreeR (.d x) := ⟨rfl⟩
instance fr_o : FreeR (.own false c) := ⟨rfl⟩
instance mp_n : MapR [] [] [] := ⟨rfl⟩
instance mp_c [h : MapR xs ds vv] : MapR (x :: xs) ds (.d x :: vv) := ⟨mapd_c h.h⟩
instance mp_d [h : MapR [] ds vv] : MapR [] (x :: ds) (.d x :: vv) := ⟨mapd_d h.h⟩
instance rpp_z : RepR [] 0 [] := ⟨rfl⟩
instance rpp_c [h : RepR vv n l] : RepR (s :: vv) n (s :: l) := ⟨rp_c h.h⟩
instance rpp_s [h : RepR [] n l] : RepR [] (n + 1) (.un :: l) := ⟨rp_s h.h⟩
instance pk_c1 [h : EvR env[i]? (.own t (.lst xs))] : EvR (pk (.cv i) env) (.lst xs) := ⟨pk_cv h.h⟩
instance pk_c2 [h : EvR env[i]? (.own t (.ins w ns xs))] : EvR (pk (.cv i) env) (.ins w ns xs) := ⟨pk_cvI h.h⟩
instance pk_c3 [h : EvR env[i]? (.own t (.dct ks vs))] : EvR (pk (.cv i) env) (.dct ks vs) := ⟨pk_cvK h.h⟩
instance pks_c [h1 : EvR (pk a env) x] [h2 : EvR (pks as env) xs] : EvR (pks (a :: as) env) (x :: xs) := ⟨pks_cons h1.h h2.h⟩
instance frz_c1 [h : EvR env[i]? (.own false (.lst xs))] [h2 : SetR env i (.d (.lst xs)) env1] : EvR (frz (.cv i) env) (.lst xs, env1) := ⟨frz_cv h.h h2.h⟩
instance frz_c2 [h : EvR env[i]? (.own false (.ins w ns xs))] [h2 : SetR env i (.d (.ins w ns xs)) env1] : EvR (frz (.cv i) env) (.ins w ns xs, env1) := ⟨frz_cvI h.h h2.h⟩
instance frz_c3 [h : EvR env[i]? (.own false (.dct ks vs))] [h2 : SetR env i (.d (.dct ks vs)) env1] : EvR (frz (.cv i) env) (.dct ks vs, env1) := ⟨frz_cvK h.h h2.h⟩
instance frz_c4 [h : EvR env[i]? (.own false (.dcu ks vs))] [h2 : SetR env i (.d (.dcu ks vs)) env1] : EvR (frz (.cv i) env) (.dcu ks vs, env1) := ⟨frz_cvU h.h h2.h⟩
instance frzs_c [h1 : EvR (frz a env) (x, env1)] [h2 : EvR (frzs as env1) (xs, env2)] : EvR (frzs (a :: as) env) (x :: xs, env2) := ⟨frzs_cons h1.h h2.h⟩
instance sto_d [h : EvR env[i]? s] [f : FreeR s] [h2 : SetR env i (.d x) env2] : EvR (storeR i (.d x) env) env2 := ⟨st_d (fs_at h.h f.h) h2.h⟩
instance sto_o [h : EvR env[i]? s] [f : FreeR s] [h2 : SetR env i (.own false c) env2] : EvR (storeR i (.own c) env) env2 := ⟨st_own (fs_at h.h f.h) h2.h⟩
instance put_n [h : EvR env[i]? s] [f : FreeR s] [h2 : SetR env i (.d x) env2] : EvR (putT (.nm i) x env) env2 := ⟨put_nm (fs_at h.h f.h) h2.h⟩
instance tru_c [h : EvR env[i]? (.own t (.lst xs))] : EvR (tru (.cv i) env) (!xs.isEmpty) := ⟨tru_cv h.h⟩
instance res_c [h : EvR env[i]? (.own false c)] : EvR (resV (.cv i) env) (.own c) := ⟨res_cv h.h⟩
instance bk_n : EvR (backs [] e) [] := ⟨bk_nil⟩
instance bk_dd [h : EvR (backs vv e) o] : EvR (backs (.d x :: vv) (s :: e)) (.d x :: o) := ⟨bk_d h.h⟩
instance bk_oo {c' : C} [h : EvR (backs vv e) o] : EvR (backs (.own true c :: vv) (.own true c' :: e)) (.own true c' :: o) := ⟨bk_own h.h⟩
end
section
variable {env env1 env2 e0 : Sl} {a b a' : RV} {x y dx dy : D} {z : RV} {i : Nat} {f : D → D → Option RV} {g1 : D → Option RV} {g : List D → Option RV} {as : List RV} {xs ys : List D} {Q : QE} {E : QX} {N : Sl → Prop} {vs : List SV} {m : List SV → Option FR} {ds : List D} {fi : D → Option (List D)} {QI : List D → Sl → Prop} {t : Bool} {T F : Prop} {o ag : List SV} {P : List SV → Prop} {Q2 : RV → List SV → Prop} {tg : Tg} {c : Str} {fs : SA} {lo hi : Option Int} {s : SV}
instance r_var [h : EvR env[i]? (.d x)] : VR (wE (varE i) env Q E) (Q (.d x) env) := ⟨w_var h.h⟩
instance r_varO {cc : C} [h : EvR env[i]? (.own t cc)] : VR (wE (varE i) env Q E) (Q (.cv i) env) := ⟨w_varO h.h⟩
theorem w_opT [h1 : EvR (pk a env) dx] [h2 : EvR (pk b env) dy] (h3 : f dx dy = some z) (q : Q z env) : wr (op2 f a b env) Q E := w_op h1.h h2.h h3 q
theorem w_op1T [h1 : EvR (pk a env) dx] (h3 : g1 dx = some z) (q : Q z env) : wr ((pk a env).bind fun x => (g1 x).map (Re.ok · env)) Q E := w_op1 h1.h h3 q
theorem w_opET [h1 : EvR (pks as env) xs] (h3 : g xs = some z) (q : Q z env) : wr ((pks as env).bind fun xs => (g xs).map (Re.ok · env)) Q E := w_opE h1.h h3 q
theorem w_src1T [h1 : EvR (frz a env) (x, env1)] (h2 : itemsD x = some xs) (q : QI xs env1) : wri ((frz a env).bind fun p => (itemsD p.1).map fun xs => .ok xs p.2) QI E := w_src1 h1.h h2 q
instance r_callD1 [h1 : EvR (frzs as env) (xs, env1)] [h2 : MapR xs ds vs] : VR (wr ((frzs as env).bind fun p => (m ((p.1 ++ ds).map .d)).bind (outD p.2)) Q E) (wC (m vs) env1 Q E) := ⟨w_callD1 h1.h h2.h⟩
instance r_st [h : EvR (storeR i a env) env1] : VR (wSt i a env N) (N env1) := ⟨w_st h.h⟩
instance r_tu [h1 : EvR (frz a env) (x, env1)] [h2 : EvR (putT tg x env1) env2] : VR (wTu tg a env N) (N env2) := ⟨w_tu h1.h h2.h⟩
instance r_set [h : SetR env i s e0] : VR (wSet i s env N) (N e0) := ⟨w_set h.h⟩
instance r_bT [h : EvR (tru a env) true] : VR (wB a env T F) T := ⟨fun hT => w_bT h.h hT⟩
instance r_bF [h : EvR (tru a env) false] : VR (wB a env T F) F := ⟨fun hF => w_bF h.h hF⟩
instance r_out1 [h : EvR (backs ag env) o] : VR (∃ o, backs ag env = some o ∧ P o) (P o) := ⟨w_out1 h.h⟩
instance r_out2 [h0 : EvR (resV a env) a'] [h1 : EvR (backs ag env) o] : VR (∃ a' o, resV a env = some a' ∧ backs ag env = some o ∧ Q2 a' o) (Q2 a' o) := ⟨w_out2 h0.h h1.h⟩
end
end
end Dw
namespace Dw
end Dw
namespace Dw
end Dw
namespace Dw
noncomputable section
open PySem PySem.Spec PyProof.Rows L2
variable [Glo] [Tabs]
def inUg (g : Bool → Bool) : D → D → Option RV := fun k d => match d with
  | .dcu ks _ => if okKU k = true then some (.d (.bl (g (hasU ks k)))) else none
  | _ => none
def inU : D → D → Option RV := inUg fun b => b
def rInUx (K : PySem.W.Frag) (w : World) (g : Bool → Bool) : R2 := fun y x H Q => ∃ a b es k, x = .ref a ∧ y = .ref b ∧ H a = some (dxO w a es) ∧ KeyAt K H y k ∧ k.depth ≤ 8 ∧ KeysOk K H es ∧ Q (.bl (g (atKey es k).isSome)) H
theorem snd_inU {K : PySem.W.Frag} {g : Bool → Bool} : Snd2 K (inUg g) (rInUx K Glo.w g) := by
  intro W F R σ H env Q x y v w z S hx hy e p
  cases y with
  | dcu ks vs =>
    obtain ⟨a, es, us, rfl, hs, c1, c2, c3, c4⟩ := hy
    have e : (if okKU x = true then some (RV.d (.bl (g (hasU ks x)))) else none) = some z := e
    by_cases hk : okKU x = true
    · rw [if_pos hk] at e
      cases e
      obtain ⟨xs, q, rfl, hq, hd⟩ := okKU_inv hk
      have ry : Rel K F v (.tup xs) := hx
      obtain ⟨b, rfl⟩ : ∃ b, v = V.ref b := by cases ry; exact ⟨_, rfl⟩
      have U : UOk K F es us ks vs := ⟨c1, c2, c3, c4⟩
      refine ⟨a, b, es, q, rfl, rfl, hs, rel_key S.sub _ _ _ ry hq, hd, U.keys S.sub, ?_⟩
      have : (atKey es q).isSome = hasU ks (.tup xs) := by
        rcases atU_rel hq U with ⟨_, h3, h2⟩ | ⟨d', a', r, u, _, h3, h2, _⟩ <;> (rw [h3, h2]; first | done | rfl)
      rw [this]
      exact post_d S p (.bl _)
    · rw [if_neg hk] at e; cases e
  | _ => cases e
def tInU (K : PySem.W.Frag) (w : World) (g : Bool → Bool) (ty td : TE) : TE := fun σ H Q => ty σ H fun y H1 => td σ H1 fun x H2 => rInUx K w g y x H2 Q
section
variable {X : Cx} {W : WX} {i o : Expr} {ty td : TE} {fi fo : SE} {pos : Pos} {k : Nat}
theorem pc_inU (hu : X.A.units + 9 < cLine) (hi : PE X i ty) (ho : PE X o td) : PC X .In i o (tInU X.K X.w (fun b => b) ty td) := by
  refine ⟨fun pins s σ H Q I h => ?_⟩
  refine thn (hi.run pins s σ H _ I h) fun iv s1 ⟨y, H1, I1, ry, q1⟩ => thn (ho.run pins s1 σ H1 _ I1 q1) fun u s2 ⟨x, H2, I2, rx, q2⟩ => ?_
  obtain ⟨a, b, es, kk, rfl, rfl, hD, ka, kd, ks, q⟩ := q2
  obtain rfl : u = Value.ref a := rx
  obtain rfl : iv = Value.ref b := ry
  obtain ⟨m, hd, _⟩ := dx_at I2 hD ks
  exact wpAny_in_heap (knd := nestedKind X.prog X.w) (show X.A.units + 1 + 8 < cLine by omega) ⟨key_is I2 kk _ _ ka rfl, kd⟩ hd m ⟨.bl (atKey es kk).isSome, H2, I2.tok _, rfl, q⟩
theorem pd_inU (hW : X.w = Glo.w) (hr : Room k X.A) (ha : PE X i (dE X.K W fi)) (hb : PE X o (dE X.K W fo)) (hm : behindInMarks .In o = false := by rfl) : PE X (.Compare i [.In] [o] pos) (dE X.K W (two (op2 inU) fi fo)) :=
  (pe_cmp (pc_inU (by have := hr.units; omega) ha hb) hm).wk fun σ H Q q => dE_two q fun _ _ _ _ _ _ _ _ S h1 h2 h => by rw [hW]; exact op2_snd snd_inU S h1 h2 h
end
def dispU1 (fk fv : SE) : SE := fun env => match fk env with
  | some (.ok (.d k) env1) => (eltD fv env1).bind fun p => if okKU k = true then some (.ok (.own (.dcu [k] [p.1])) p.2) else none
  | _ => none
def tDispU (K : PySem.W.Frag) (w : World) (tk tv : TE) : TE := fun σ H Q => ∀ p, H p = none → tk σ (upd H p (dxO w p [])) fun x H1 => tv σ H1 fun y H2 => ∃ k b, x = .ref b ∧ H2 p = some (dxO w p []) ∧ KeyAt K H2 x k ∧ k.depth ≤ 8 ∧ ∀ r, RelV y r → Q (.ref p) (upd H2 p (dxO w p [(k, b, r)]))
theorem dict1H {prog : Program} {w : World} {K : Type} [DecidableEq K] {knd : HeapKind prog w K} {A : Around} {E : Value → Shared → Prop} {s : Shared} {env : Env} {keys : List (Option Expr)} {values : List Expr} {pos : Pos} {pairs : List (Sem Value × Sem Value)} {Q : Value → Shared → Prop} (hu : knd.room A)
    (hshape : (evalEachOpt keys env).zip ((evalEach values env).map fun v => do let x ← v; standAt pos; pure x) = pairs.map fun p => (some p.1, p.2)) (h0 : pairs ≠ []) (hlen : pairs.length ≤ 15)
    (h : wpAny (model prog w) A (evalPairs pairs) (fun vs s₁ => ∃ ps, CarriesH knd s₁.heap vs ps ∧ s₁.heap.DictOfH knd s.heap.objs.size [] ∧
      ∀ h' tk, h'.DictOfH knd s.heap.objs.size (storedAllH [] ps) → Heap.SameBut s.heap.objs.size s₁.heap h' → Q (.ref s.heap.objs.size) { s₁ with heap := h', toks := tk }) E
      { s with heap := s.heap.push { cls := .type "dict", data := .dict #[] } }) :
    wpAny (model prog w) A (eval (.Dict keys values pos) env) Q E s := by
  rw [arm_eval_Dict, hshape, dictDisplay_pairs pairs h0 (by omega)]
  exact wpAny_bind (wpAny_standAt (wpAny_bind (wpAny_subDictH (knd := knd) (Q := fun d s' => wpAny (model prog w) A (pure (Value.ref d)) Q E s') hu hlen
    (wpAny_mono h (fun vs s₁ h₁ => by obtain ⟨ps, hc, hm, hq⟩ := h₁; exact ⟨ps, hc, hm, fun h' tk a b => wpAny_pure (hq h' tk a b)⟩) fun _ _ e => e))))
section
variable {X : Cx} {W : WX} {k v : Expr} {fk fv : SE} {tk tv : TE} {pos : Pos} {n : Nat}
theorem pe_dispU (hu : X.A.units + 9 < cLine) (hk : PE X k tk) (hv : PE X v tv) : PE X (.Dict [some k] [v] pos) (tDispU X.K X.w tk tv) := by
  refine ⟨fun pins s σ H Q I q => ?_⟩
  have hn := I.hok.fresh (Nat.le_refl s.heap.objs.size)
  have bg : (s.heap.objs.size == sysModules) = false := beq_eq_false_iff_ne.mpr (Nat.ne_of_gt I.big)
  have m0 : (s.heap.push { cls := .type "dict", data := .dict #[] }).DictOfH (nestedKind X.prog X.w) s.heap.objs.size [] := ⟨_, #[], 0, Heap.get?_push_size _ rfl, ⟨rfl, rfl, rfl⟩, rfl, rfl, (fun _ hx => by cases hx), List.nodup_nil⟩
  have I1 := I.laid (a := s.heap.objs.size) (o := dxO X.w s.heap.objs.size []) (h' := s.heap.push { cls := .type "dict", data := .dict #[] }) (t' := s.toks) (fun _ _ q => Heap.get?_push_of_some _ q) (Nat.le_refl _) (dx_new m0 bg (Nat.zero_le _))
  refine dict1H (knd := nestedKind X.prog X.w) (pairs := pairTrees [some k] [v] X.env pos) (show X.A.units + 8 < cLine by omega) (zip_pairTrees _ _ _ _ rfl rfl) (fun e => ?_) ?_ (pairTrees_cons_walk (thn (hk.run pins _ σ _ _ I1 (q _ hn)) fun u s1 h1 => ?_))
  · have := pairTrees_length [some k] [v] X.env pos rfl rfl
    rw [e] at this
    cases this
  · rw [pairTrees_length [some k] [v] X.env pos rfl rfl]
    exact (by decide : 1 ≤ 15)
  obtain ⟨x, H1, I2, r1, q1⟩ := h1
  refine thn (hv.run pins s1 σ H1 _ I2 q1) fun u2 s2 h2 => ?_
  obtain ⟨y, H2, I3, r2, kk, b, rfl, hD, ka, kd, qq⟩ := h2
  obtain rfl : u = Value.ref b := r1
  obtain ⟨m, hd, _⟩ := dx_at I3 hD (fun _ hx => by cases hx)
  refine pairTrees_nil_walk ⟨[(kk, b, u2)], ⟨rfl, rfl, ⟨key_is I3 kk _ _ ka rfl, kd⟩, trivial⟩, m, fun h' tk' m' hsb => ?_⟩
  have m' : h'.DictOfH (nestedKind X.prog X.w) s.heap.objs.size [(kk, b, u2)] := m'
  obtain ⟨ob, es', ep, g1, _⟩ := id m'
  exact ⟨.ref s.heap.objs.size, _, d_write (ob := dxO X.w s.heap.objs.size [(kk, b, u2)]) I3 (by rw [hD]; exact True.intro) hsb ⟨ob, g1⟩ (dx_new m' hd (by decide : 1 ≤ sizeLine)), rfl, qq u2 r2⟩
end
section
variable {K : PySem.W.Frag} {W : WX} {σ : L2.St} {H : Hp} {Q : VK}
theorem dE_dispU {fk fv : SE} (h : dE K W (dispU1 fk fv) σ H Q) : tDispU K Glo.w (dE K W fk) (dE K W fv) σ H Q := by
  obtain ⟨env, F, R, r, S, e, p⟩ := h
  unfold dispU1 at e
  cases h1 : fk env with
  | none => rw [h1] at e; cases e
  | some r1 =>
    rw [h1] at e
    cases r1 with
    | ex _ _ => cases e
    | ok a1 env1 =>
      cases a1 with
      | own _ => cases e
      | cv _ => cases e
      | d k =>
        dsimp only at e
        rw [Option.bind_eq_some_iff] at e
        obtain ⟨⟨y, env4⟩, h4, e⟩ := e
        obtain ⟨hk, rfl⟩ := some_if e
        obtain ⟨xs, qk, rfl, hqk, hd⟩ := okKU_inv hk
        unfold eltD at h4
        cases h5 : fv env1 with
        | none => rw [h5] at h4; cases h4
        | some r5 =>
          rw [h5] at h4
          cases r5 with
          | ex _ _ => cases h4
          | ok a env5 =>
            intro q hq
            have S0 : Sta K F R σ (upd H q (dxO Glo.w q [])) env := S.freshH hq
            have A : AccAt K F R σ (upd H q (dxO Glo.w q [])) env q (.dcu [] []) := ⟨⟨_, upd_same, [], [], rfl, rfl, .nil, .nil, .nil⟩, S.freeF hq, S.freeR hq, fun i b c' e z => by
              obtain ⟨p', o, e1, _, _, e4, _⟩ := S.own i b c' e
              rw [z] at e1
              cases e1
              rw [hq] at e4
              cases e4⟩
            obtain ⟨o, ho, eR, S1⟩ := A.hold S0
            refine ⟨env, F, _, _, S1, h1, fun u F5 H5 e5 S5 ru => ⟨env1, F5, _, _, S5, h5, fun w F6 H6 e7 S6 rw' => ?_⟩⟩
            have ru : Rel K F5 u (.tup xs) := ru
            obtain ⟨b, rfl⟩ : ∃ b, u = V.ref b := by cases ru; exact ⟨_, rfl⟩
            obtain ⟨F7, e8, S7, r7⟩ := frz_ok S6 rw' h4
            obtain ⟨S8, A8⟩ := AccAt.back A.r ho (e5.trans (e7.trans e8)) S7
            obtain ⟨o', k1, es, us, rfl, c1, c2, c3, c4⟩ := A8.o
            have : es = [] := by cases es with | nil => rfl | cons _ _ => cases c1
            subst this
            have rb := ru.up (e7.trans e8)
            refine ⟨qk, b, rfl, k1, rel_key S8.sub _ _ _ rb hqk, hd, fun rr hr => ?_⟩
            obtain ⟨S9, A9⟩ := A8.put S8 (o' := dxO Glo.w q [(qk, b, rr)]) (acc' := .dcu [.tup xs] [y]) ⟨_, [w], rfl, by rw [List.map_cons, List.map_nil, hqk]; rfl, .cons rb .nil, .cons hr .nil, .cons r7 .nil⟩
            obtain ⟨o9, g1, g2⟩ := A9.o
            exact p _ F7 _ (e5.trans (e7.trans e8)) S9 ⟨q, _, rfl, A9.f, A9.r, g1, g2, A9.a⟩
end
section
variable {X : Cx} {W : WX} {k v : Expr} {fk fv : SE} {pos : Pos} {n : Nat}
theorem pd_dispU (hW : X.w = Glo.w) (hr : Room n X.A) (hk : PE X k (dE X.K W fk)) (hv : PE X v (dE X.K W fv)) : PE X (.Dict [some k] [v] pos) (dE X.K W (dispU1 fk fv)) :=
  (pe_dispU (by have := hr.units; omega) hk hv).wk fun _ _ _ q => by rw [hW]; exact dE_dispU q
end
section
variable {env : Sl} {fk fv fi fe : SE} {Q : QE} {E : QX}
theorem w_dispU (h : wE fk env (fun u e1 => ∃ k, u = .d k ∧ okKU k = true ∧ wE fv e1 (fun w e2 => ∃ y e3, frz w e2 = some (y, e3) ∧ Q (.own (.dcu [k] [y])) e3) nE) nE) : wE (dispU1 fk fv) env Q E := by
  obtain ⟨u, e1, h1, k, rfl, hk, h⟩ := wE_get h
  obtain ⟨w, e2, h2, y, e3, h3, q⟩ := wE_get h
  show wr (dispU1 fk fv env) Q E
  unfold dispU1 eltD
  rw [h1]
  dsimp only
  rw [h2]
  dsimp only
  rw [h3, Option.bind_some, if_pos hk]
  exact q
end
end
end Dw
namespace Dw
noncomputable section
open PySem PySem.Spec PyProof.Rows L2
variable [Glo] [Tabs]
section
variable {env : Sl} {Q R : QE} {E : QX} {N B Ct : Sl → Prop} {fe fi : SE} {j i : Nat} {k : D} {ks vs : List D} {t : Bool}
theorem inU_in (h : okKU k = true) : inU k (.dcu ks vs) = some (.d (.bl (hasU ks k))) := if_pos h
end
end
end Dw
namespace Dw
noncomputable section
open PySem PySem.Spec PyProof.Rows L2
variable [Glo] [Tabs]
def noNx (f : SS) : Prop := ∀ env env', f env ≠ some (.nx env')
theorem noNx_seq {f g : SS} (h : noNx g) : noNx (seqS f g) := fun env env' e => by
  have e : (match f env with | some (.nx env1) => g env1 | o => o) = some (.nx env') := e
  cases h1 : f env with
  | none => rw [h1] at e; cases e
  | some o =>
    rw [h1] at e
    cases o with
    | nx env1 => exact h env1 env' e
    | _ => cases e
end
end Dw
namespace Dw
end Dw
namespace Dw
end Dw
namespace Dw
end Dw
namespace Dw
noncomputable section
open PySem PySem.Spec PyProof.Rows L2
variable [Glo] [Tabs]
section
variable {prog : Program} {w : World} {A : Around} {E : Value → Shared → Prop} {s : Shared}
/-- the stored keys are other ones -/
structure Oth (s : Shared) (es : Array DictEntry) (q : NestedKey) (u : Value) : Prop where
  kq : NestedIs s.heap q u
  qd : q.depth ≤ 8
  ks : ∀ e ∈ es.toList, ∃ k, NestedIs s.heap k e.key ∧ k.depth ≤ 8 ∧ NestedKey.beq k q = false
  st : ∀ e ∈ es.toList, ∀ x t, u = .str x t → e.key.isStr x = false
  ne : ∀ e ∈ es.toList, (e.key == u) = false
theorem Oth.at {es : Array DictEntry} {q : NestedKey} {u : Value} (O : Oth s es q u) {i : Nat} {e : DictEntry} (h : es[i]? = some e) : ∃ k, NestedIs s.heap k e.key ∧ k.depth ≤ 8 ∧ NestedKey.beq k q = false :=
  O.ks e (Array.mem_toList_iff.mpr (Array.mem_of_getElem? h))
end
end
end Dw
namespace Dw
noncomputable section
open PySem PySem.Spec PyProof.Rows L2
variable [Glo] [Tabs]
def okX : D → Bool
  | .lst _ => false
  | .dct _ _ => false
  | .dcu _ _ => false
  | .ins _ _ _ => false
  | _ => true
def farD : D → Bool
  | .non => true
  | .tup xs => okKU (.tup xs)
  | _ => false
def farUD : D → Bool
  | .non => true
  | .int _ => true
  | .str _ => true
  | _ => false
def getGD : D → List D → Option RV
  | .dct ks vs, [k, x] => if okX x = true then if isK k = true then some (.d ((atD ks vs k).getD x)) else if farD k = true then some (.d x) else none else none
  | .dcu ks vs, [k, x] => if okX x = true then if okKU k = true then some (.d ((atU ks vs k).getD x)) else if farUD k = true then some (.d x) else none else none
  | _, _ => none
theorem gg_K {ks vs : List D} {k x : D} (hx : okX x = true) (hk : isK k = true) : getGD (.dct ks vs) [k, x] = some (.d ((atD ks vs k).getD x)) := by
  show (if okX x = true then _ else _) = _
  rw [if_pos hx, if_pos hk]
theorem gg_fK {ks vs : List D} {k x : D} (hx : okX x = true) (hk : farD k = true) : getGD (.dct ks vs) [k, x] = some (.d x) := by
  show (if okX x = true then _ else _) = _
  rw [if_pos hx, if_neg (by cases k <;> first | (cases hk; done) | exact Bool.false_ne_true), if_pos hk]
theorem gg_fU {ks vs : List D} {k x : D} (hx : okX x = true) (hk : farUD k = true) : getGD (.dcu ks vs) [k, x] = some (.d x) := by
  show (if okX x = true then _ else _) = _
  rw [if_pos hx, if_neg (by cases k <;> first | (cases hk; done) | exact Bool.false_ne_true), if_pos hk]
end
end Dw
namespace Dw
noncomputable section
open PySem PySem.Spec PyProof.Rows L2
variable [Glo] [Tabs]
def addI : D → D → Option RV := intD fun i j => some (i + j)
theorem addI_int {i j : Int} : addI (.int i) (.int j) = some (.d (.int (i + j))) := rfl
def newU : SE := fun env => some (.ok (.own (.dcu [] [])) env)
theorem w_newU {env : Sl} {Q : QE} {E : QX} (q : Q (.own (.dcu [] [])) env) : wE newU env Q E := q
instance i_w_newU {env : Sl} {Q : QE} {E : QX} : VR (wE newU env Q E) (Q (.own (.dcu [] [])) env) := ⟨fun h => w_newU h⟩
section
variable {ks vs : List D}
instance e_addI {i j : Int} : EvR (addI (.int i) (.int j)) (.d (.int (i + j))) := ⟨addI_int⟩
class OkX (y : D) : Prop where h : okX y = true
instance ox_str {x : List Nat} : OkX (.str x) := ⟨rfl⟩
instance ox_int {x : Int} : OkX (.int x) := ⟨rfl⟩
instance ox_non : OkX .non := ⟨rfl⟩
instance ox_tup {xs : List D} : OkX (.tup xs) := ⟨rfl⟩
instance e_ggKs {x : List Nat} {y : D} [h : OkX y] : EvR (getGD (.dct ks vs) [.str x, y]) (.d ((atD ks vs (.str x)).getD y)) := ⟨gg_K h.h rfl⟩
instance e_ggKi {x : Int} {y : D} [h : OkX y] : EvR (getGD (.dct ks vs) [.int x, y]) (.d ((atD ks vs (.int x)).getD y)) := ⟨gg_K h.h rfl⟩
instance e_ggKn {y : D} [h : OkX y] : EvR (getGD (.dct ks vs) [.non, y]) (.d y) := ⟨gg_fK h.h rfl⟩
instance e_ggUs {x : List Nat} {y : D} [h : OkX y] : EvR (getGD (.dcu ks vs) [.str x, y]) (.d y) := ⟨gg_fU h.h rfl⟩
instance e_ggUi {x : Int} {y : D} [h : OkX y] : EvR (getGD (.dcu ks vs) [.int x, y]) (.d y) := ⟨gg_fU h.h rfl⟩
instance e_ggUn {y : D} [h : OkX y] : EvR (getGD (.dcu ks vs) [.non, y]) (.d y) := ⟨gg_fU h.h rfl⟩
end
end
end Dw
namespace Dw
end Dw
namespace Dw
noncomputable section
open PySem PySem.Spec PyProof.Rows L2
variable [Glo] [Tabs]
def repO (a b : RV) : SE := fun env => match a, pk b env with
  | .own (.lst xs), some (.int n) => if okP (0 ≤ n ∧ n ≤ 1000 ∧ xs.length ≤ 10) then some (.ok (.own (.lst (List.replicate n.toNat xs).flatten)) env) else none
  | _, _ => none
theorem w_twoO {env : Sl} {op : RV → RV → SE} {fa fb : SE} {Q : QE} {E : QX} (h : wE fa env (fun u e1 => wE fb e1 (fun v e2 => wr (op u v e2) Q E) E) E) : wE (two op fa fb) env Q E := wr_bind (wr_mono h (fun _ _ h => wr_bind h) fun _ _ h => h)
instance i_w_rep {env : Sl} {fa fb : SE} {Q : QE} {E : QX} : VR (wE (two repO fa fb) env Q E) (wE fa env (fun u e1 => wE fb e1 (fun v e2 => wr (repO u v e2) Q E) E) E) := ⟨fun h => w_twoO h⟩
end
end Dw
namespace Dw
end Dw
namespace Dw
noncomputable section
open PySem PySem.Spec PyProof.Rows L2
variable [Glo] [Tabs]
def lenU : List D → Option RV
  | [.dcu ks _] => some (.d (.int ks.length))
  | _ => none
theorem len_dcu {ks vs : List D} : lenU [.dcu ks vs] = some (.d (.int ks.length)) := rfl
instance e_lenU {ks vs : List D} : EvR (lenU [.dcu ks vs]) (.d (.int ks.length)) := ⟨len_dcu⟩
end
end Dw
namespace Dw
noncomputable section
open PySem PySem.Spec PyProof.Rows L2
variable [Glo] [Tabs]
/-- what stands at a place within tuples -/
def lookD : List Nat → D → Option D
  | [], d => some d
  | j :: p, .tup ds => (ds[j]?).bind (lookD p)
  | _ :: _, _ => none
/-- the list at the place p of the value v: frozen in F, not yet in F0 -/
inductive Nst (K : PySem.W.Frag) (F0 F : Hp) : V → List Nat → List D → Prop
  | here {q : Addr} {vs : List V} {L : List D} : F0 q = none → F q = some (.lst vs) → RelAll K F vs L → Nst K F0 F (.ref q) [] L
  | at {a : Addr} {vs : List V} {j : Nat} {v : V} {p : List Nat} {L : List D} : F a = some (.tup vs) → vs[j]? = some v → Nst K F0 F v p L → Nst K F0 F (.ref a) (j :: p) L
section
variable {K : PySem.W.Frag} {F0 F1 F F' : Hp}
theorem Nst.up (e : Ex F F') {v : V} {p : List Nat} {L : List D} (h : Nst K F0 F v p L) : Nst K F0 F' v p L := by
  induction h with
  | here a b c => exact .here a (e _ _ b) (c.up e)
  | «at» a b _ ih => exact .at (e _ _ a) b ih
theorem Nst.dn (e : Ex F0 F1) {v : V} {p : List Nat} {L : List D} (h : Nst K F1 F v p L) : Nst K F0 F v p L := by
  induction h with
  | here a b c => exact .here (ex_none e a) b c
  | «at» a b _ ih => exact .at a b ih
end
/-- the result is none, or has the list -/
def FrsT (K : PySem.W.Frag) (path : List Nat) (F0 F : Hp) (v : V) (T : D) : Prop := T = .non ∨ ∃ L, lookD path T = some (.lst L) ∧ Nst K F0 F v path L
theorem FrsT.dn {K : PySem.W.Frag} {path : List Nat} {F0 F1 F : Hp} {v : V} {T : D} (e : Ex F0 F1) : FrsT K path F1 F v T → FrsT K path F0 F v T
  | .inl h => .inl h
  | .inr ⟨L, h1, h2⟩ => .inr ⟨L, h1, h2.dn e⟩
theorem FrsT.up {K : PySem.W.Frag} {path : List Nat} {F0 F F' : Hp} {v : V} {T : D} (e : Ex F F') : FrsT K path F0 F v T → FrsT K path F0 F' v T
  | .inl h => .inl h
  | .inr ⟨L, h1, h2⟩ => .inr ⟨L, h1, h2.up e⟩
section
variable (K : PySem.W.Frag) (W : WX) (path : List Nat)
def PostSQ (En : Ends) (F : Hp) (R : Fm) (r : Out) : Prop :=
  match r with
  | .rt a env' => ∀ v σ' F' H', Ex F F' → Sta K F' R σ' H' env' → RvOk K F' R σ' H' env' v a → (∀ T, resV a env' = some (.d T) → FrsT K path F F' v T) → En.rt v H'
  | r => PostS K W En F R r
end
/-- what it returns is none -/
def RtN (f : SS) : Prop := ∀ env a e, f env = some (.rt a e) → a = .d .non
theorem rtN_asg {i : Nat} {fe : SE} : RtN (asgS i fe) := fun env a e h => by
  rcases bindS_inv h with ⟨u, env1, _, h2⟩ | ⟨x, env1, _, h2⟩
  · rw [Option.map_eq_some_iff] at h2
    obtain ⟨_, _, z⟩ := h2
    cases z
  · cases h2
section
variable {K : PySem.W.Frag} {W : WX} {path : List Nat} {En : Ends} {σ : L2.St} {H : Hp}
theorem PostSQ.up {F F' : Hp} {R : Fm} (e : Ex F F') : ∀ {r : Out}, PostSQ K W path En F R r → PostSQ K W path En F' R r
  | .rt _ _, h => fun v σ F2 H2 e2 s q z => h v σ F2 H2 (e.trans e2) s q fun T hT => (z T hT).dn e
  | .nx _, h => PostS.up (K := K) (W := W) (En := En) (r := .nx _) e h
  | .bk _, h => PostS.up (K := K) (W := W) (En := En) (r := .bk _) e h
  | .ct _, h => PostS.up (K := K) (W := W) (En := En) (r := .ct _) e h
  | .ex _ _, h => PostS.up (K := K) (W := W) (En := En) (r := .ex _ _) e h
end
end
end Dw
namespace Dw
noncomputable section
open PySem PySem.Spec PyProof.Rows L2
variable [Glo] [Tabs]
mutual
/-- no list, no dict, no instance inside -/
def noL : D → Bool
  | .non => true
  | .bl _ => true
  | .int _ => true
  | .str _ => true
  | .tup xs => noLs xs
  | _ => false
def noLs : List D → Bool
  | [] => true
  | x :: xs => noL x && noLs xs
end
open Classical in
def del (F : Hp) (q : Addr) : Hp := fun a => if a = q then none else F a
section
variable {K : PySem.W.Frag} {F F0 : Hp} {q : Addr} {vs : List V}
theorem del_same : del F q q = none := by
  unfold del
  exact if_pos rfl
theorem del_ne {a : Addr} (h : a ≠ q) : del F q a = F a := by
  unfold del
  exact if_neg h
theorem ex_del (e : Ex F0 F) (h : F0 q = none) : Ex F0 (del F q) := fun a o z => by
  have : a ≠ q := fun c => by rw [c, h] at z; cases z
  rw [del_ne this]
  exact e a o z
theorem del_sub {H : Hp} (e : Ex F H) : Ex (del F q) H := fun a o z => by
  by_cases c : a = q
  · subst c; rw [del_same] at z; cases z
  · rw [del_ne c] at z; exact e a o z
theorem sqT_off (hq : F q = some (.lst vs)) {a : Addr} {xs : List V} (h : SqT K F a xs) : SqT K (del F q) a xs := by
  have ne : ∀ o, F a = some o → (∀ vs, o ≠ .lst vs) → a ≠ q := fun o h1 h2 z => by
    rw [z, hq] at h1
    exact h2 _ (Option.some.inj h1).symm
  rcases h with h | h
  · rcases h with h | ⟨o, h⟩
    · exact .inl (.inl (by rw [del_ne (ne _ h (fun _ z => by cases z))]; exact h))
    · exact .inl (.inr ⟨o, by rw [del_ne (ne _ h (fun _ z => by cases z))]; exact h⟩)
  · exact .inr h
mutual
theorem Rel.off (hq : F q = some (.lst vs)) : ∀ (d : D) (v : V), noL d = true → Rel K F v d → Rel K (del F q) v d
  | .non, _, _, h => by cases h; exact .non
  | .bl _, _, _, h => by cases h; exact .bl _
  | .int _, _, _, h => by cases h; exact .int _
  | .str _, _, _, h => by cases h; exact .str _
  | .tup ds, _, n, h => by
    cases h with
    | tup s r => exact .tup (sqT_off hq s) (RelAll.off hq ds _ (by rw [noL] at n; exact n) r)
  | .lst _, _, n, _ => by simp [noL] at n
  | .dct _ _, _, n, _ => by simp [noL] at n
  | .dcu _ _, _, n, _ => by simp [noL] at n
  | .ins _ _ _, _, n, _ => by simp [noL] at n
theorem RelAll.off (hq : F q = some (.lst vs)) : ∀ (ds : List D) (us : List V), noLs ds = true → RelAll K F us ds → RelAll K (del F q) us ds
  | [], _, _, h => by cases h; exact .nil
  | d :: ds, _, n, h => by
    rw [noLs, Bool.and_eq_true] at n
    cases h with
    | cons a b => exact .cons (Rel.off hq d _ n.1 a) (RelAll.off hq ds _ n.2 b)
end
end
/-- a slot that was kept: data; or a list of one's own that was frozen since, its items flat -/
def keptS : Option SV → Option SV → SV
  | some (.d y), _ => .d y
  | some (.own _ _), some (.d (.lst xs)) => if noLs xs = true then .d (.lst xs) else .un
  | _, _ => .un
/-- the slots behind row = x[..]: what was kept, what is flat, the list -/
def meltSl (Kp Fl : List Nat) (row : Nat) (L : List D) (m env : Sl) : Sl := (List.range env.length).map fun k =>
  if k = row then .own false (.lst L) else if k ∈ Kp then keptS m[k]? env[k]? else if k ∈ Fl then (match env[k]? with | some (.d y) => if noL y = true then .d y else .un | _ => .un) else .un
def startM (x : Nat) (m : List SV → Option FR) (fa : SA) (g : Sl → SS) : SS := fun env => match callD m [] fa env with
  | some (.ok (.d T) env2) => (setSlot x (.d T) env2).bind fun env1 => g env1 env1
  | _ => none
section
variable (K : PySem.W.Frag) (W : WX)
/-- the slots Kp are as they were -/
def keepE (Kp : List Nat) (σ : L2.St) (En : Ends) : Ends := { En with nx := fun σ' H' => (∀ k ∈ Kp, σ'[k]? = σ[k]?) → En.nx σ' H' }
def dK (Kp : List Nat) (f : SS) : TS := fun En σ H => dS K W f (keepE Kp σ En) σ H
end
section
variable {K : PySem.W.Frag} {W : WX} {En : Ends} {σ : L2.St} {H : Hp} {x row : Nat} {path Kp Fl : List Nat}
theorem Sta.melt {F F0 : Hp} {R : Fm} {env m : Sl} {q : Addr} {vs : List V} {L : List D} (S : Sta K F R σ H env) (e0 : Ex F0 F) (kp : ∀ k ∈ Kp, ∀ y, m[k]? = some (SV.d y) → ∃ v, σ[k]? = some (some v) ∧ Rel K F0 v y) (ko : ∀ k ∈ Kp, ∀ b c, m[k]? = some (SV.own b c) → ∃ p, σ[k]? = some (some (V.ref p)) ∧ p ≠ q) (h0 : F0 q = none) (hq : F q = some (.lst vs)) (r : RelAll K F vs L) (hL : noLs L = true) (hr : row < env.length) :
    Sta K (del F q) R (σ.set row (some (.ref q))) H (meltSl Kp Fl row L m env) := by
  have len : (meltSl Kp Fl row L m env).length = env.length := by unfold meltSl; rw [List.length_map, List.length_range]
  have at_ : ∀ (k : Nat) s, (meltSl Kp Fl row L m env)[k]? = some s → k < env.length ∧ s = (if k = row then .own false (.lst L) else if k ∈ Kp then keptS m[k]? env[k]? else if k ∈ Fl then (match env[k]? with | some (.d y) => if noL y = true then .d y else .un | _ => .un) else .un) := fun k s h => by
    have hk : k < env.length := by rw [← len]; exact (List.getElem?_eq_some_iff.mp h).1
    unfold meltSl at h
    rw [List.getElem?_map, List.getElem?_range hk] at h
    exact ⟨hk, (Option.some.inj h).symm⟩
  have hr' : row < σ.length := by rw [S.len]; exact hr
  have Rq : R.r q = none := by
    cases z : R.r q with
    | none => rfl
    | some o => rw [S.dis q o z] at hq; cases hq
  have own : ∀ (k : Nat) b c, (meltSl Kp Fl row L m env)[k]? = some (SV.own b c) → k = row ∧ b = false ∧ c = .lst L := fun k b c h => by
    obtain ⟨_, h⟩ := at_ k _ h
    by_cases c1 : k = row
    · rw [if_pos c1] at h
      cases h
      exact ⟨c1, rfl, rfl⟩
    · rw [if_neg c1] at h
      exfalso
      by_cases c2 : k ∈ Kp
      · rw [if_pos c2] at h
        unfold keptS at h
        split at h
        · cases h
        · split at h <;> cases h
        · cases h
      · rw [if_neg c2] at h
        by_cases c3 : k ∈ Fl
        · rw [if_pos c3] at h
          split at h
          · split at h <;> cases h
          · cases h
        · rw [if_neg c3] at h
          cases h
  refine ⟨del_sub S.sub, S.fr, fun b o z => ?_, by rw [len, List.length_set]; exact S.len, fun k y h => ?_, fun k b c h => ?_, fun k c h => ?_, fun i j bi ci bj cj p h1 h2 _ _ => ?_, fun k e h => ?_, fun P h => ?_⟩
  · by_cases c : b = q
    · subst c; exact del_same
    · rw [del_ne c]; exact S.dis b o z
  · obtain ⟨hk, h⟩ := at_ k _ h
    by_cases c1 : k = row
    · rw [if_pos c1] at h
      cases h
    · rw [if_neg c1] at h
      rw [List.getElem?_set_ne (fun z => c1 z.symm)]
      by_cases c2 : k ∈ Kp
      · rw [if_pos c2] at h
        unfold keptS at h
        split at h
        · rename_i y' _ hm
          cases h
          obtain ⟨v, z1, z2⟩ := kp k c2 y hm
          exact ⟨v, z1, z2.up (ex_del e0 h0)⟩
        · rename_i b' c' xs hm he
          split at h
          · rename_i hn
            cases h
            obtain ⟨p, z1, z2⟩ := ko k c2 _ _ hm
            obtain ⟨v, z3, z4⟩ := S.dat k _ he
            rw [z1] at z3
            cases z3
            refine ⟨_, z1, ?_⟩
            cases z4 with
            | lst s rr =>
              refine .lst ?_ (RelAll.off hq _ _ hn rr)
              rcases s with s | s
              · rcases s with s | ⟨o, s⟩
                · exact .inl (.inl (by rw [del_ne z2]; exact s))
                · exact .inl (.inr ⟨o, by rw [del_ne z2]; exact s⟩)
              · exact .inr s
          · cases h
        · cases h
      · rw [if_neg c2] at h
        by_cases c3 : k ∈ Fl
        · rw [if_pos c3] at h
          split at h
          · rename_i y' hm
            split at h
            · rename_i hn
              cases h
              obtain ⟨v, z1, z2⟩ := S.dat k y hm
              exact ⟨v, z1, Rel.off hq y v hn z2⟩
            · cases h
          · cases h
        · rw [if_neg c3] at h
          cases h
  · obtain ⟨rfl, rfl, rfl⟩ := own k b c h
    exact ⟨q, .lst vs, by rw [List.getElem?_set_self hr'], del_same, Rq, S.sub q _ hq, vs, rfl, RelAll.off hq L vs hL r⟩
  · obtain ⟨_, z, _⟩ := own k _ c h
    cases z
  · rw [(own i bi ci h1).1, (own j bj cj h2).1]
  · exfalso
    obtain ⟨_, h⟩ := at_ k _ h
    by_cases c1 : k = row
    · rw [if_pos c1] at h; cases h
    · rw [if_neg c1] at h
      by_cases c2 : k ∈ Kp
      · rw [if_pos c2] at h
        unfold keptS at h
        split at h
        · cases h
        · split at h <;> cases h
        · cases h
      · rw [if_neg c2] at h
        by_cases c3 : k ∈ Fl
        · rw [if_pos c3] at h
          split at h
          · split at h <;> cases h
          · cases h
        · rw [if_neg c3] at h
          cases h
  · obtain ⟨⟨ps, h1, h2, h3⟩, h4, h5⟩ := S.tab P h
    refine ⟨⟨ps, h1, h2, fun q2 hq2 pos cv hc => ?_⟩, ?_, h5⟩
    · obtain ⟨c, z1, z2⟩ := h3 q2 hq2 pos cv hc
      refine ⟨c, z1, ?_⟩
      have : c ≠ q := fun z => by
        rw [z, hq] at z2
        have z2 := Option.some.inj z2
        unfold LamX.CodeO at z2
        cases z2
      rw [del_ne this]
      exact z2
    · by_cases c : P = q
      · subst c; exact del_same
      · rw [del_ne c]; exact h4
end
section
variable {X : Cx} {st : Stmt} {rest : List Stmt} {W : WX} {x row : Nat} {path Kp Fl : List Nat} {g : SS} {f : Sl → SS}
theorem psk_if {c : Expr} {a b : List Stmt} {pos : Pos} {fc : SE} {f g : SS} (hc : PT X c (dT X.K W fc)) (ha : PSs X a (dK X.K W Kp f)) (hb : PSs X b (dK X.K W Kp g)) : PS X (.If c a b pos) (dK X.K W Kp (iteS fc f g)) := (ps_if hc ha hb).wk fun En σ H q => dS_if q
theorem psk_nil : PSs X [] (dK X.K W Kp skipS) := pss_nil.wk fun En σ H q => by
  obtain ⟨env, F, R, r, S, e, p⟩ := q
  cases e
  exact p σ F H (Ex.refl F) S fun _ _ => rfl
end
section
variable {env m : Sl} {N B Ct : Sl → Prop} {R : QE} {E : QX} {K : Ks} {x row i : Nat} {path Kp Fl : List Nat} {mm : List SV → Option FR} {fa : SA} {g : Sl → SS} {h : SS} {T : D} {L : List D} {ga gb : SE} {fr : SA}
theorem w_start (q : wE (callD mm [] fa) env (fun u e => ∃ T, u = .d T ∧ wSt x (.d T) e fun e1 => wS (g e1) e1 N K) nE) : wS (startM x mm fa g) env N K := by
  show wrs (startM x mm fa g env) N K
  have q : wr (callD mm [] fa env) _ nE := q
  unfold startM
  cases h1 : callD mm [] fa env with
  | none => rw [h1] at q; exact q.elim
  | some r =>
    rw [h1] at q
    cases r with
    | ex _ _ => exact q.elim
    | ok a e =>
      obtain ⟨T, rfl, e1, h2, q⟩ := q
      have h2 : setSlot x (.d T) e = some e1 := h2
      dsimp only
      rw [h2]
      exact q
end
end
end Dw
namespace Dw
end Dw
namespace Dw
noncomputable section
open PySem PySem.Spec PyProof.Rows L2
section
variable {α : Type} {p : List α → Prop}
theorem len1 (q : ∀ x1, p [x1]) : ∀ us : List α, us.length = 1 → p us := fun us hl => match us, hl with | [x1], _ => q x1
theorem len2 (q : ∀ x1 x2, p [x1, x2]) : ∀ us : List α, us.length = 2 → p us := fun us hl => match us, hl with | [x1, x2], _ => q x1 x2
theorem len3 (q : ∀ x1 x2 x3, p [x1, x2, x3]) : ∀ us : List α, us.length = 3 → p us := fun us hl => match us, hl with | [x1, x2, x3], _ => q x1 x2 x3
theorem len4 (q : ∀ x1 x2 x3 x4, p [x1, x2, x3, x4]) : ∀ us : List α, us.length = 4 → p us := fun us hl => match us, hl with | [x1, x2, x3, x4], _ => q x1 x2 x3 x4
end
end
end Dw
namespace Dw
end Dw
namespace Dw
noncomputable section
open PySem PySem.Spec PyProof.Rows L2
variable [Glo] [Tabs]
structure TwoS (K : PySem.W.Frag) (F0 F : Hp) (v : V) (a b : D) (L1 L2 : List D) (p p1 p2 q1 q2 : Addr) (va vb : V) (u1 u2 : List V) : Prop where
  ev : v = .ref p
  fp : F p = some (.tup [.ref p1, .ref p2])
  f1 : F p1 = some (.tup [va, .ref q1])
  f2 : F p2 = some (.tup [vb, .ref q2])
  ne : q1 ≠ q2
  n1 : F0 q1 = none
  n2 : F0 q2 = none
  l1 : F q1 = some (.lst u1)
  l2 : F q2 = some (.lst u2)
  r1 : RelAll K F u1 L1
  r2 : RelAll K F u2 L2
  ra : Rel K F va a
  rb : Rel K F vb b
def pairT (a b : D) (L1 L2 : List D) : D := .tup [.tup [a, .lst L1], .tup [b, .lst L2]]
def Two (K : PySem.W.Frag) (F0 F : Hp) (v : V) (T : D) : Prop := T = .non ∨ ∃ a b L1 L2 p p1 p2 q1 q2 va vb u1 u2, T = pairT a b L1 L2 ∧ TwoS K F0 F v a b L1 L2 p p1 p2 q1 q2 va vb u1 u2
theorem Two.dn {K : PySem.W.Frag} {F0 F1 F : Hp} {v : V} {T : D} (e : Ex F0 F1) : Two K F1 F v T → Two K F0 F v T
  | .inl h => .inl h
  | .inr ⟨a, b, L1, L2, p, p1, p2, q1, q2, va, vb, u1, u2, h1, h2⟩ => .inr ⟨a, b, L1, L2, p, p1, p2, q1, q2, va, vb, u1, u2, h1, { h2 with n1 := ex_none e h2.n1, n2 := ex_none e h2.n2 }⟩
theorem Two.up {K : PySem.W.Frag} {F0 F F' : Hp} {v : V} {T : D} (e : Ex F F') : Two K F0 F v T → Two K F0 F' v T
  | .inl h => .inl h
  | .inr ⟨a, b, L1, L2, p, p1, p2, q1, q2, va, vb, u1, u2, h1, h2⟩ => .inr ⟨a, b, L1, L2, p, p1, p2, q1, q2, va, vb, u1, u2, h1, ⟨h2.ev, e _ _ h2.fp, e _ _ h2.f1, e _ _ h2.f2, h2.ne, h2.n1, h2.n2, e _ _ h2.l1, e _ _ h2.l2, h2.r1.up e, h2.r2.up e, h2.ra.up e, h2.rb.up e⟩⟩
section
variable (K : PySem.W.Frag) (W : WX)
def PostQ2 (F : Hp) (R : Fm) (vs : List V) (r : FR) (Q : VK) (E : XK) : Prop :=
  match r with
  | .ok a outs => ∀ v F' H', Ex F F' → Sta K F' R (vs.map some) H' outs → RvOk K F' R (vs.map some) H' outs v a → (∀ T, a = .d T → Two K F F' v T) → Q v H'
  | .ex e outs => ∀ cls d F' H', Ex F F' → Sta K F' R (vs.map some) H' outs → XnAt K F' e cls d → E cls d H'
def spQ2 (np : Nat) (m : List SV → Option FR) : Sp := fun vs H Q E => ∃ F R args r, args.length = np ∧ Sta K F R (vs.map some) H args ∧ m args = some r ∧ PostQ2 K F R vs r Q E
def PostSQ2 (En : Ends) (F : Hp) (R : Fm) (r : Out) : Prop :=
  match r with
  | .rt a env' => ∀ v σ' F' H', Ex F F' → Sta K F' R σ' H' env' → RvOk K F' R σ' H' env' v a → (∀ T, resV a env' = some (.d T) → Two K F F' v T) → En.rt v H'
  | r => PostS K W En F R r
def dSQ2 (f : SS) : TS := fun En σ H => ∃ env F R r, Sta K F R σ H env ∧ f env = some r ∧ PostSQ2 K W En F R r
end
section
variable {K : PySem.W.Frag} {W : WX} {En : Ends} {σ : L2.St} {H : Hp}
theorem PostSQ2.up {F F' : Hp} {R : Fm} (e : Ex F F') : ∀ {r : Out}, PostSQ2 K W En F R r → PostSQ2 K W En F' R r
  | .rt _ _, h => fun v σ F2 H2 e2 s q z => h v σ F2 H2 (e.trans e2) s q fun T hT => (z T hT).dn e
  | .nx _, h => PostS.up (K := K) (W := W) (En := En) (r := .nx _) e h
  | .bk _, h => PostS.up (K := K) (W := W) (En := En) (r := .bk _) e h
  | .ct _, h => PostS.up (K := K) (W := W) (En := En) (r := .ct _) e h
  | .ex _ _, h => PostS.up (K := K) (W := W) (En := En) (r := .ex _ _) e h
theorem dSQ22_seq {f g : SS} (hf : RtN f) (h : dSQ2 K W (seqS f g) En σ H) : tSeq (dS K W f) (dSQ2 K W g) En σ H := by
  obtain ⟨env, F, R, r, S, e, p⟩ := h
  have e : (match f env with | some (.nx env1) => g env1 | o => o) = some r := e
  cases h1 : f env with
  | none => rw [h1] at e; cases e
  | some o =>
    rw [h1] at e
    cases o with
    | nx env1 => exact ⟨env, F, R, _, S, h1, fun σ1 F1 H1 e1 S1 => ⟨env1, F1, R, r, S1, e, p.up e1⟩⟩
    | rt a env1 =>
      cases e
      have : a = .d .non := hf _ _ _ h1
      subst this
      exact ⟨env, F, R, _, S, h1, fun v σ' F' H' e1 S1 rv => p v σ' F' H' e1 S1 rv fun T hT => .inl (by injection hT with hT; injection hT with hT; exact hT.symm)⟩
    | bk _ => cases e; exact ⟨env, F, R, _, S, h1, p⟩
    | ct _ => cases e; exact ⟨env, F, R, _, S, h1, p⟩
    | ex _ _ => cases e; exact ⟨env, F, R, _, S, h1, p⟩
/-- return ((x, y), (z, w)): y, w lists of one's own -/
def retTT (fa : SE) (i : Nat) (fb : SE) (j : Nat) : SS := fun env => match fa env with
  | some (.ok (.d a) env1) => match env1[i]? with
    | some (.own b1 (.lst L1)) => match fb (env1.set i (.d (.lst L1))) with
      | some (.ok (.d b) env2) => match env2[j]? with
        | some (.own b2 (.lst L2)) => some (.rt (.d (pairT a b L1 L2)) (env2.set j (.d (.lst L2))))
        | _ => none
      | _ => none
    | _ => none
  | _ => none
theorem ret_tt {fa fb : SE} {i j : Nat} (h : dSQ2 K W (retTT fa i fb j) En σ H) : tRet (tTup (tCons (tTup (tCons (dE K W fa) (tCons (tVar i) tNil))) (tCons (tTup (tCons (dE K W fb) (tCons (tVar j) tNil))) tNil))) En σ H := by
  obtain ⟨env, F, R, r, S, e, p⟩ := h
  unfold retTT at e
  split at e
  · rename_i a env1 h1
    split at e
    · rename_i b1 L1 hi
      split at e
      · rename_i b env2 h2
        split at e
        · rename_i b2 L2 hj
          cases e
          refine ⟨env, F, R, _, S, h1, fun va F1 H1 e1 S1 rva => ?_⟩
          obtain ⟨q1, o1, s1, x1, x2, x3, u1, rfl, ru1⟩ := S1.own i _ _ hi
          obtain ⟨S2, rq1⟩ := S1.freezeSlot hi s1 x1 x2 x3 ⟨u1, rfl, ru1⟩
          have e2 : Ex F1 (upd F1 q1 (.lst u1)) := Ex.new x1
          refine ⟨_, s1, by show 2 ≤ sizeLine; decide, fun p1 hp1 => ?_⟩
          have S3 := S2.freshF (o := .tup [va, .ref q1]) hp1
          have e3 : Ex (upd F1 q1 (.lst u1)) (upd (upd F1 q1 (.lst u1)) p1 (.tup [va, .ref q1])) := Ex.new (S2.freeF hp1)
          have hne1 : q1 ≠ p1 := fun z => by rw [z, hp1] at x3; cases x3
          have fq1 : upd (upd F1 q1 (.lst u1)) p1 (.tup [va, .ref q1]) q1 = some (.lst u1) := by rw [upd_ne hne1, upd_same]
          have fp1 : upd (upd F1 q1 (.lst u1)) p1 (.tup [va, .ref q1]) p1 = some (.tup [va, .ref q1]) := upd_same
          refine ⟨_, _, R, _, S3, h2, fun vb F4 H4 e4 S4 rvb => ?_⟩
          obtain ⟨q2, o2, s2, y1, y2, y3, u2, rfl, ru2⟩ := S4.own j _ _ hj
          obtain ⟨S5, rq2⟩ := S4.freezeSlot hj s2 y1 y2 y3 ⟨u2, rfl, ru2⟩
          have e5 : Ex F4 (upd F4 q2 (.lst u2)) := Ex.new y1
          refine ⟨_, s2, by show 2 ≤ sizeLine; decide, fun p2 hp2 => ?_⟩
          have S6 := S5.freshF (o := .tup [vb, .ref q2]) hp2
          have e6 : Ex (upd F4 q2 (.lst u2)) (upd (upd F4 q2 (.lst u2)) p2 (.tup [vb, .ref q2])) := Ex.new (S5.freeF hp2)
          have hne2 : q2 ≠ p2 := fun z => by rw [z, hp2] at y3; cases y3
          refine ⟨by show 2 ≤ sizeLine; decide, fun p0 hp0 => ?_⟩
          have S7 := S6.freshF (o := .tup [.ref p1, .ref p2]) hp0
          have e7 : Ex (upd (upd F4 q2 (.lst u2)) p2 (.tup [vb, .ref q2])) (upd (upd (upd F4 q2 (.lst u2)) p2 (.tup [vb, .ref q2])) p0 (.tup [.ref p1, .ref p2])) := Ex.new (S6.freeF hp0)
          have e47 := (e5.trans e6).trans e7
          have fq1' := e47 _ _ (e4 _ _ fq1)
          have fp1' := e47 _ _ (e4 _ _ fp1)
          have fq2' := e7 _ _ (e6 _ _ (show upd F4 q2 (.lst u2) q2 = some (.lst u2) from upd_same))
          have fp2' := e7 _ _ (show upd (upd F4 q2 (.lst u2)) p2 (.tup [vb, .ref q2]) p2 = some (.tup [vb, .ref q2]) from upd_same)
          have qne : q1 ≠ q2 := fun z => by
            have y := e4 _ _ fq1
            rw [z, y1] at y
            cases y
          have e14 := (e2.trans e3).trans e4
          have T : TwoS K F _ (.ref p0) a b L1 L2 p0 p1 p2 q1 q2 va vb u1 u2 := ⟨rfl, upd_same, fp1', fp2', qne, ex_none e1 x1, ex_none (e1.trans e14) y1, fq1', fq2', ru1.up (e14.trans e47), ru2.up e47, Rel.up (e14.trans e47) (show Rel K F1 va a from rva), Rel.up e47 (show Rel K F4 vb b from rvb)⟩
          refine p _ σ _ _ ((e1.trans e14).trans e47) S7 ?_ fun T' hT => .inr ⟨a, b, L1, L2, p0, p1, p2, q1, q2, va, vb, u1, u2, by injection hT with hT; injection hT with hT; exact hT.symm, T⟩
          exact .tup (SqT.of T.fp) (.cons (.tup (SqT.of T.f1) (.cons T.ra (.cons (.lst (SqL.of T.l1) T.r1) .nil))) (.cons (.tup (SqT.of T.f2) (.cons T.rb (.cons (.lst (SqL.of T.l2) T.r2) .nil))) .nil))
        · cases e
      · cases e
    · cases e
  · cases e
end
theorem noNx_retTT {fa fb : SE} {i j : Nat} : noNx (retTT fa i fb j) := fun env env' e => by
  unfold retTT at e
  split at e
  · split at e
    · split at e
      · split at e <;> cases e
      · cases e
    · cases e
  · cases e
section
variable {P : Program} {w : World} {K : PySem.W.Frag} {mg : Str → Option Value} {base : Heap}
theorem fnd_q2 {x qual : Str} {st : Stmt} {f : Addr} {fd : FuncData} {N ps : List Str} {k n : Nat} {body : SS} (F : Fun K x qual st f fd) (S : FnScope N ps (defScope st)) (hn : N.length = ps.length + n) (hnx : noNx body)
    (hb : ∀ (cdv : Value) (A : Around) (outer : List Env) (s : Shared) (H : Hp) (E : XK), Room k (A.deeper (envOfC qual (defScope st) s.heap.objs.size f cdv)) → PSs (cxOf CX0 P w K mg base N qual (defScope st) f cdv A outer s H E).nox (defBody st) (dSQ2 K W0 body)) :
    FnOk P w K mg base CX0 (k + 1) f fd ps (spQ2 K ps.length (defM ps.length n body)) := by
  refine fun_okC F S (fun vs H Q E h => ?_) (fun cdv hcd A outer s H vs Q E hr h => ⟨_, hb cdv A outer s H E hr, ?_⟩)
  · obtain ⟨F, R, args, r, h1, h2, _⟩ := h
    have := h2.len
    rw [List.length_map] at this
    omega
  · obtain ⟨F1, R, args, r, h1, S1, e, p⟩ := h
    have hv : vs.length = ps.length := by
      have := S1.len
      rw [List.length_map] at this
      omega
    have S2 := S1.start (N := N) (n := n) (by omega)
    unfold defM at e
    rw [if_pos h1] at e
    cases hr : runF n body args with
    | none => rw [hr] at e; cases e
    | some q =>
      rw [hr] at e
      cases q with
      | ex _ _ => cases e
      | ok a outs =>
        cases e
        unfold runF at hr
        cases hbd : body (args ++ List.replicate n .un) with
        | none => rw [hbd] at hr; cases hr
        | some o =>
          rw [hbd] at hr
          refine ⟨_, F1, R, o, S2, hbd, ?_⟩
          cases o with
          | rt a0 env =>
            dsimp only at hr
            rw [Option.bind_eq_some_iff] at hr
            obtain ⟨a', h3, hr⟩ := hr
            rw [Option.map_eq_some_iff] at hr
            obtain ⟨o', h4, hr⟩ := hr
            cases hr
            exact fun v σ' F' H' e1 S3 rv z => p v F' H' e1 (S1.backs e1 S3 h4) (RvOk.backs S1 S3 h4 rv h3) fun T hT => z T (by rw [h3, hT])
          | nx env => exact absurd hbd (hnx _ _)
          | bk env => cases hr
          | ct env => cases hr
          | ex e env =>
            dsimp only at hr
            first | (cases hr; done) | (rw [Option.map_eq_some_iff] at hr; obtain ⟨o', h4, hr⟩ := hr; cases hr)
end
end
end Dw
namespace Dw
noncomputable section
open PySem PySem.Spec PyProof.Rows L2
variable [Glo] [Tabs]
def twoM (x : Nat) (fd : SE) (Kp : List Nat) (row : Nat) (g : SS) : SS := fun env => match env[x]? with
  | some (.d (.tup [.tup [a, .lst L1], .tup [b, .lst L2]])) => match fd env with
    | some (.ok (.d (.int d)) env2) =>
      if (noL a && noL b && noLs L1 && noLs L2 && decide (row < env2.length) && decide (d = 0 ∨ d = 1)) = true then
        match g (meltSl Kp [] row (if d = 0 then L1 else L2) env env2) with
        | some (.nx env4) => match env4[row]? with
          | some (.own b0 (.lst L')) => some (.rt (.d (if d = 0 then pairT a b L' L2 else pairT a b L1 L')) (env4.set row (.d (.lst L'))))
          | _ => none
        | _ => none
      else none
    | _ => none
  | _ => none
section
variable (K : PySem.W.Frag) (W : WX)
def dM2 (x : Nat) (Kp : List Nat) (f : SS) : TS := fun En σ H => ∃ env F0 F R r, Sta K F R σ H env ∧ Ex F0 F ∧ (∀ k ∈ Kp, ∀ y, env[k]? = some (SV.d y) → ∃ v, σ[k]? = some (some v) ∧ Rel K F0 v y) ∧
  (∃ v T, σ[x]? = some (some v) ∧ env[x]? = some (.d T) ∧ Two K F0 F v T) ∧ f env = some r ∧ PostS K W En F0 R r
end
section
variable {K : PySem.W.Frag} {W : WX} {En : Ends} {σ : L2.St} {H : Hp} {x row : Nat} {Kp : List Nat}
theorem dS_start2 {np : Nat} {m : List SV → Option FR} {fa : SA} {g : SS} (hn : ∀ as fr, m as = some fr → as.length = np) (hk : x ∉ Kp) (h : dS K W (startM x m fa fun _ => g) En σ H) : tSeq (tAsg (tCallSD (spQ2 K np m) [] (WE W) (dA K W fa)) (gName x)) (dM2 K W x Kp g) En σ H := by
  obtain ⟨env, F, R, r, S, e, p⟩ := h
  unfold startM at e
  split at e
  · rename_i T env2 hc
    rw [Option.bind_eq_some_iff] at e
    obtain ⟨env1, h9, e⟩ := e
    obtain ⟨cf, rfl⟩ := setSlot_inv h9
    rcases bindA_inv hc with ⟨as, envA, h1, h2⟩ | ⟨x, _, _, z⟩
    · rw [Option.bind_eq_some_iff] at h2
      obtain ⟨⟨xs, envB⟩, h3, h4⟩ := h2
      rw [Option.bind_eq_some_iff] at h4
      obtain ⟨fr, h4, h5⟩ := h4
      refine ⟨env, F, R, _, S, h1, fun vs F1 H1 R1 e1 eR S1 hv => ?_⟩
      obtain ⟨F2, R2, e2, eR2, S2, rr⟩ := frzs_held eR S1 hv h3
      have S3 := S2.unhold eR2
      have rr2 : RelAll K F2 (vs ++ []) (xs ++ []) := rr.app .nil
      refine ⟨F2, calF R σ H1 envB envB.length 0, _, fr, hn _ _ h4, S3.callD rr2, h4, ?_⟩
      cases fr with
      | ex _ _ => cases h5
      | ok a outs =>
        have h5 : (retV a).map (Re.ok · envB) = some (.ok (.d T) env2) := h5
        rw [Option.map_eq_some_iff] at h5
        obtain ⟨a', h6, h7⟩ := h5
        cases h7
        have ha : a = .d T := by
          cases a with
          | d y => cases h6; rfl
          | own c => cases h6
          | cv i => cases h6
        subst ha
        intro v F' H' e3 S4 rv z
        have S5 := S3.retD e3 S4
        have S6 := S5.setD (i := x) (x := T) cf rv
        have lx : x < env2.length := by
          cases hi : env2[x]? with
          | none => rw [hi] at cf; cases cf
          | some s => exact (List.getElem?_eq_some_iff.mp hi).1
        refine ⟨_, F2, F', R, r, S6, e3, fun k hkp y hy => ?_, ⟨v, T, by rw [List.getElem?_set_self (by rw [S5.len]; exact lx)], by rw [List.getElem?_set_self lx], z T rfl⟩, e, p.up (e1.trans e2)⟩
        have hne : k ≠ x := fun z => hk (z ▸ hkp)
        rw [List.getElem?_set_ne (Ne.symm hne)] at hy ⊢
        exact S3.dat k y hy
    · cases z
  · cases e
/-- the list at q, thawed, changed and frozen again -/
theorem two_fin {F0 F F2 : Hp} {R : Fm} {env4 : Sl} {σ2 : L2.St} {H2 : Hp} {a b : D} {L1 L2 L' : List D} {v va vb : V} {p p1 p2 q1 q2 : Addr} {u1 u2 : List V} {d : Int} {b0 : Bool} (T : TwoS K F0 F v a b L1 L2 p p1 p2 q1 q2 va vb u1 u2) (na : noL a = true) (nb : noL b = true) (n1 : noLs L1 = true) (n2 : noLs L2 = true)
    {q : Addr} (hq : q = if d = 0 then q1 else q2) (e : Ex (del F q) F2) (S : Sta K F2 R σ2 H2 env4) (hr : env4[row]? = some (.own b0 (.lst L'))) (hs : σ2[row]? = some (some (.ref q))) :
    ∃ F3, Ex F2 F3 ∧ Sta K F3 R σ2 H2 (env4.set row (.d (.lst L'))) ∧ Rel K F3 v (if d = 0 then pairT a b L' L2 else pairT a b L1 L') := by
  obtain ⟨q', o, s1, x1, x2, x3, u', rfl, ru'⟩ := S.own row _ _ hr
  rw [hs] at s1
  have s1 : q = q' := by injection s1 with s1; injection s1 with s1; injection s1
  subst s1
  obtain ⟨S2, _⟩ := S.freezeSlot hr hs x1 x2 x3 ⟨u', rfl, ru'⟩
  have e3 : Ex F2 (upd F2 q (.lst u')) := Ex.new x1
  have off : ∀ {c : Addr} {o : HO}, F c = some o → c ≠ q → upd F2 q (.lst u') c = some o := fun {c o} h hc => e3 _ _ (e _ _ (by rw [del_ne hc]; exact h))
  have hql : ∃ u, F q = some (.lst u) := by
    rw [hq]
    split
    · exact ⟨_, T.l1⟩
    · exact ⟨_, T.l2⟩
  obtain ⟨uq, hql⟩ := hql
  have notT : ∀ {c : Addr} {w : List V}, F c = some (.tup w) → c ≠ q := fun h z => by rw [z, hql] at h; cases h
  have fp := off T.fp (notT T.fp)
  have f1 := off T.f1 (notT T.f1)
  have f2 := off T.f2 (notT T.f2)
  have ra : Rel K (upd F2 q (.lst u')) va a := (Rel.off hql a va na T.ra).up (e.trans e3)
  have rb : Rel K (upd F2 q (.lst u')) vb b := (Rel.off hql b vb nb T.rb).up (e.trans e3)
  have fq : upd F2 q (.lst u') q = some (.lst u') := upd_same
  have ruq : RelAll K (upd F2 q (.lst u')) u' L' := ru'.up e3
  refine ⟨_, e3, S2, ?_⟩
  rw [T.ev]
  by_cases hd : d = 0
  · rw [if_pos hd] at hq ⊢
    have l2 := off T.l2 (by rw [hq]; exact fun z => T.ne z.symm)
    have r2 : RelAll K (upd F2 q (.lst u')) u2 L2 := (RelAll.off hql L2 u2 n2 T.r2).up (e.trans e3)
    rw [← hq] at f1
    exact .tup (SqT.of fp) (.cons (.tup (SqT.of f1) (.cons ra (.cons (.lst (SqL.of fq) ruq) .nil))) (.cons (.tup (SqT.of f2) (.cons rb (.cons (.lst (SqL.of l2) r2) .nil))) .nil))
  · rw [if_neg hd] at hq ⊢
    have l1 := off T.l1 (by rw [hq]; exact T.ne)
    have r1 : RelAll K (upd F2 q (.lst u')) u1 L1 := (RelAll.off hql L1 u1 n1 T.r1).up (e.trans e3)
    rw [← hq] at f2
    exact .tup (SqT.of fp) (.cons (.tup (SqT.of f1) (.cons ra (.cons (.lst (SqL.of l1) r1) .nil))) (.cons (.tup (SqT.of f2) (.cons rb (.cons (.lst (SqL.of fq) ruq) .nil))) .nil))
theorem dM_two {fd : SE} {g : SS} (hxr : x ≠ row) (h : dM2 K W x Kp (twoM x fd Kp row g) En σ H) : tSeq (tAsg (tOp (rIx K) (tOp (rIx K) (tVar x) (dE K W fd)) (tC (.int (1 : Nat)))) (gName row)) (tSeq (dK K W [x, row] g) (tRet (tVar x))) En σ H := by
  obtain ⟨env, F0, F, R, r, S, e0, kp, ⟨v, T, f1, f2, f3⟩, e, p⟩ := h
  unfold twoM at e
  rw [f2] at e
  split at e
  · rename_i a L1 b L2 hT
    injection hT with hT
    injection hT with hT
    subst hT
    split at e
    · rename_i d env2 hfd
      split at e
      · rename_i c
        split at e
        · rename_i env4 hg
          split at e
          · rename_i b0 L' hr
            cases e
            simp only [Bool.and_eq_true, decide_eq_true_eq] at c
            obtain ⟨⟨⟨⟨⟨na, nb⟩, n1⟩, n2⟩, hrow⟩, hd⟩ := c
            rcases f3 with z | ⟨a', b', M1, M2, p0, p1, p2, q1, q2, va, vb, u1, u2, z, T⟩
            · cases z
            · have z : D.tup [.tup [a, .lst L1], .tup [b, .lst L2]] = pairT a' b' M1 M2 := z
              unfold pairT at z
              injection z with z
              injection z with z1 z2
              injection z1 with z1
              injection z1 with z1 z3
              injection z3 with z3 _
              injection z3 with z3
              injection z2 with z2 _
              injection z2 with z2
              injection z2 with z2 z4
              injection z4 with z4 _
              injection z4 with z4
              subst z1 z2 z3 z4
              refine ⟨v, f1, env, F, R, _, S, hfd, fun dv F1 H1 e1 S1 rv => ?_⟩
              have rv : Rel K F1 dv (.int d) := rv
              cases rv
              have T1 : TwoS K F0 F1 v a b L1 L2 p0 p1 p2 q1 q2 va vb u1 u2 := ⟨T.ev, e1 _ _ T.fp, e1 _ _ T.f1, e1 _ _ T.f2, T.ne, T.n1, T.n2, e1 _ _ T.l1, e1 _ _ T.l2, T.r1.up e1, T.r2.up e1, T.ra.up e1, T.rb.up e1⟩
              have fin : ∀ (q : Addr) (u : List V) (L : List D), q = (if d = 0 then q1 else q2) → L = (if d = 0 then L1 else L2) → F0 q = none → F1 q = some (.lst u) → RelAll K F1 u L → noLs L = true → (tSeq (dK K W [x, row] g) (tRet (tVar x))) En (σ.set row (some (.ref q))) H1 := fun q u L hq hL q0 qF qr qn => by
                have SM := S1.melt (Kp := Kp) (Fl := []) (row := row) (m := env) (L := L) (e0.trans e1) kp (fun k hk b c hy => by
                  obtain ⟨p', o, w1, w2, _⟩ := S.own k b c hy
                  refine ⟨p', w1, fun z => ?_⟩
                  subst z
                  have : F p' = some (.lst u1) ∨ F p' = some (.lst u2) := by
                    rw [hq]
                    split
                    · exact .inl T.l1
                    · exact .inr T.l2
                  rcases this with t | t <;> rw [w2] at t <;> cases t) q0 qF qr qn hrow
                rw [← hL] at hg
                refine ⟨_, _, R, _, SM, hg, fun σ2 F2 H2 e2 S2 hkeep => ?_⟩
                have s1 : σ2[row]? = some (some (.ref q)) := by
                  rw [hkeep row (by simp), List.getElem?_set_self (by rw [S1.len]; exact hrow)]
                have s2 : σ2[x]? = some (some v) := by
                  rw [hkeep x (by simp), List.getElem?_set_ne (Ne.symm hxr)]
                  exact f1
                obtain ⟨F3, e3, S3, rel⟩ := two_fin T1 na nb n1 n2 hq e2 S2 hr s1
                refine ⟨v, s2, p v σ2 F3 H2 (((ex_del (e0.trans e1) q0).trans e2).trans e3) S3 rel⟩
              rw [T.ev]
              rcases hd with rfl | rfl
              · exact .inr (.inl ⟨_, _, _, _, rfl, rfl, SqT.of (S1.sub _ _ T1.fp), _root_.L2.atI_nat (j := 0) rfl, .inr (.inl ⟨_, _, _, _, rfl, rfl, SqT.of (S1.sub _ _ T1.f1), _root_.L2.atI_nat (j := 1) rfl, fin q1 u1 L1 rfl rfl T.n1 T1.l1 T1.r1 n1⟩)⟩)
              · exact .inr (.inl ⟨_, _, _, _, rfl, rfl, SqT.of (S1.sub _ _ T1.fp), _root_.L2.atI_nat (j := 1) rfl, .inr (.inl ⟨_, _, _, _, rfl, rfl, SqT.of (S1.sub _ _ T1.f2), _root_.L2.atI_nat (j := 1) rfl, fin q2 u2 L2 rfl rfl T.n2 T1.l2 T1.r2 n2⟩)⟩)
          · cases e
        · cases e
      · cases e
    · cases e
  · cases e
end
end
end Dw
namespace Dw
noncomputable section
open PySem PySem.Spec PyProof.Rows L2
variable [Glo] [Tabs]
theorem rtN_expr {fe : SE} : RtN (exprS fe) := fun env a e h => by
  rcases bindS_inv h with ⟨u, env1, _, h2⟩ | ⟨x, env1, _, h2⟩ <;> cases h2
theorem rtN_ite {fc : SE} {f g : SS} (hf : RtN f) (hg : RtN g) : RtN (iteS fc f g) := fun env a e h => by
  rcases bindS_inv h with ⟨u, env1, _, h2⟩ | ⟨x, env1, _, h2⟩
  · cases ht : tru u env1 with
    | none => rw [ht] at h2; cases h2
    | some b =>
      rw [ht] at h2
      cases b with
      | true => exact hf _ _ _ h2
      | false => exact hg _ _ _ h2
  · cases h2
theorem rtN_loop {tg : Tg} {body : SS} (hb : RtN body) : ∀ (xs : List D) env a e, loopD tg body xs env = some (.rt a e) → a = .d .non
  | [], env, a, e, h => by cases h
  | x :: xs, env, a, e, h => by
    have h : ((putT tg x env).bind fun env1 => match body env1 with
      | some (.nx e2) => loopD tg body xs e2
      | some (.ct e2) => loopD tg body xs e2
      | some (.bk e2) => some (.nx e2)
      | o => o) = some (.rt a e) := by
      unfold loopD at h
      exact h
    rw [Option.bind_eq_some_iff] at h
    obtain ⟨env1, _, h⟩ := h
    cases hq : body env1 with
    | none => rw [hq] at h; cases h
    | some o =>
      rw [hq] at h
      cases o with
      | nx e2 => exact rtN_loop hb xs _ _ _ h
      | ct e2 => exact rtN_loop hb xs _ _ _ h
      | bk e2 => cases h
      | rt a2 e2 => cases h; exact hb _ _ _ hq
      | ex _ _ => cases h
theorem rtN_for {fi : SI} {tg : Tg} {body : SS} (hb : RtN body) : RtN (forS fi tg body) := fun env a e h => by
  unfold forS at h
  split at h
  · exact rtN_loop hb _ _ _ _ h
  all_goals cases h
section
variable {X : Cx} {st : Stmt} {rest : List Stmt} {f g : SS} {W : WX}
theorem pss_q2cons (hf : RtN f) (h1 : PS X st (dS X.K W f)) (h2 : PSs X rest (dSQ2 X.K W g)) : PSs X (st :: rest) (dSQ2 X.K W (seqS f g)) := (pss_cons h1 h2).wk fun _ _ _ q => dSQ22_seq hf q
theorem pss_q2ret {i j : Nat} {fa fb : SE} {a b x y : Expr} {k k1 k2 : Nat} {p1 p2 p3 pos : Pos} (ha : PE X a (dE X.K W fa)) (hx : PE X x (tVar i)) (hb : PE X b (dE X.K W fb)) (hy : PE X y (tVar j))
    (na : starEach [a, x] X.env = (false, eval a X.env) :: starEach [x] X.env := by rfl) (nx : starEach [x] X.env = (false, eval x X.env) :: starEach [] X.env := by rfl) (nb : starEach [b, y] X.env = (false, eval b X.env) :: starEach [y] X.env := by rfl) (ny : starEach [y] X.env = (false, eval y X.env) :: starEach [] X.env := by rfl)
    (n1 : starEach [.Tuple [a, x] k1 p1, .Tuple [b, y] k2 p2] X.env = (false, eval (.Tuple [a, x] k1 p1) X.env) :: starEach [.Tuple [b, y] k2 p2] X.env := by rfl) (n2 : starEach [.Tuple [b, y] k2 p2] X.env = (false, eval (.Tuple [b, y] k2 p2) X.env) :: starEach [] X.env := by rfl) :
    PSs X [.Return (some (.Tuple [.Tuple [a, x] k1 p1, .Tuple [b, y] k2 p2] k p3)) pos] (dSQ2 X.K W (retTT fa i fb j)) :=
  (pss_one (ps_ret (pe_tup (pa_cons (pe_tup (pa_cons ha (pa_cons hx pa_nil nx) na)) (pa_cons (pe_tup (pa_cons hb (pa_cons hy pa_nil ny) nb)) pa_nil n2) n1)))).wk fun En σ H q => ret_tt q
end
section
variable {K : PySem.W.Frag} {W : WX} {En : Ends} {σ : L2.St} {H : Hp} {Kp : List Nat}
theorem dK_setL {j : Nat} {fi fe : SE} (h : dK K W Kp (setL j fi fe) En σ H) : tAsg (dE K W fe) (gSub (dE K W (varE j)) (dE K W fi) rSetL) En σ H := by
  obtain ⟨env, F, R, r, S, e, p⟩ := h
  rcases bindS_inv e with ⟨a, env1, h1, h2⟩ | ⟨x, env1, h1, rfl⟩
  · rw [Option.bind_eq_some_iff] at h2
    obtain ⟨⟨x, env2⟩, h3, h4⟩ := h2
    rw [Option.bind_eq_some_iff] at h4
    obtain ⟨⟨b0, y0⟩, h5, h6⟩ := h4
    refine ⟨env, F, R, _, S, h1, fun v F1 H1 e1 S1 rv => ?_⟩
    obtain ⟨F2, e2, S2, rx⟩ := frz_ok S1 rv h3
    have h5 := ownL_some h5
    have hv : varE j env2 = some (.ok (.cv j) env2) := ev_varO h5
    refine ⟨env2, F2, R, _, S2, hv, fun o F3 H3 e3 S3 ro => ?_⟩
    have ro : σ[j]? = some (some o) := ro
    rcases bindS_inv h6 with ⟨b, env3, h7, h8⟩ | ⟨x', env3, h7, rfl⟩
    · refine ⟨env2, F3, R, _, S3, h7, fun w F4 H4 e4 S4 rw' => ?_⟩
      cases hb : pk b env3 with
      | none => rw [hb] at h8; cases h8
      | some y =>
        rw [hb] at h8
        cases y with
        | int k =>
          have h8 : ((ownL env3[j]?).bind fun o => (ixN o.2.length k).map fun m => Out.nx (env3.set j (.own o.1 (.lst (o.2.set m x))))) = some r := h8
          rw [Option.bind_eq_some_iff] at h8
          obtain ⟨⟨b1, ys⟩, h9, h8⟩ := h8
          rw [Option.map_eq_some_iff] at h8
          obtain ⟨m, h10, rfl⟩ := h8
          have h9 := ownL_some h9
          have vw := pk_vw S4 rw' hb
          cases vw
          obtain ⟨q, u, z1, _, _, z4, ws, rfl, z5⟩ := S4.own j _ _ h9
          rw [ro] at z1
          cases z1
          refine ⟨q, ws, k, m, rfl, rfl, z4, by rw [z5.len]; exact h10, ?_⟩
          exact p σ F4 _ (((e1.trans e2).trans e3).trans e4) (S4.mut h9 ro ⟨_, rfl, z5.set m (rx.up (e3.trans e4))⟩) fun _ _ => rfl
        | _ => cases h8
    · exact ⟨env2, F3, R, _, S3, h7, fun cls d F4 H4 e4 S4 hx => p cls d σ F4 H4 (((e1.trans e2).trans e3).trans e4) S4 hx⟩
  · exact ⟨env, F, R, _, S, h1, fun cls d F1 H1 e1 S1 hx => p cls d σ F1 H1 e1 S1 hx⟩
end
section
variable {X : Cx} {W : WX} {e : Expr} {j : Nat} {fi fe : SE} {pos : Pos} {Kp : List Nat}
theorem psk_setL {tg : Expr} (he : PE X e (dE X.K W fe)) (hg : PG X tg (gSub (dE X.K W (varE j)) (dE X.K W fi) rSetL)) (hs : swapsWithSole [tg] e pos.line X.env = pure false := by rfl) (hw : swappedStores [tg] e X.env = pure none := by rfl)
    (h1 : (assignEach [tg] X.env).map (·.2) = [assign tg X.env] := by rfl) : PS X (.Assign [tg] e pos) (dK X.K W Kp (setL j fi fe)) := (ps_asg he hg hs hw h1).wk fun _ _ _ q => dK_setL q
end
section
variable {P : Program} {w : World} {K : PySem.W.Frag} {mg : Str → Option Value} {base : Heap}
structure DefQ2 (P : Program) (w : World) (K : PySem.W.Frag) (mg : Str → Option Value) (base : Heap) (k : Nat) (x : Str) (np : Nat) (m : List SV → Option FR) : Prop where
  ex : ∃ (f : Addr) (fd : FuncData) (ps : List Str), FnOk P w K mg base CX0 k f fd ps (spQ2 K np m) ∧ mg x = some (.ref f) ∧ PySem.W.keepIn K (.ref f) = true ∧ Binds K fd ps [] ∧ ∀ as fr, m as = some fr → as.length = np
theorem DefQ2.mk0 {k : Nat} {x : Str} {np n : Nat} {body : SS} {f : Addr} {fd : FuncData} {ps : List Str} (F : FnOk P w K mg base CX0 k f fd ps (spQ2 K np (defM np n body))) (hm : mg x = some (.ref f)) (hk : PySem.W.keepIn K (.ref f) = true) (hb : Binds K fd ps []) : DefQ2 P w K mg base k x np (defM np n body) :=
  ⟨f, fd, ps, F, hm, hk, hb, defM_len⟩
end
section
variable {X : Cx} {W : WX} {k j i row : Nat} {x y : Str} {np : Nat} {Kp : List Nat} {m : List SV → Option FR} {fa : SA} {fd : SE} {g : SS} {p p1 p2 p3 pos pos2 : Pos} {e : Expr} {es : List Expr} {rest : List Stmt} {st3 : Stmt}
theorem pss_start2 (C : DefQ2 X.prog X.w X.K X.mg X.base k x np m) (hr : Room j X.A) (hj : k ≤ j) (hN : X.N.Nodup) (hi : X.N[i]? = some y) (hx : Loc X.env.scope y) (ha : PA X (e :: es) (dA X.K W fa)) (h2 : PSs X rest (dM2 X.K W i Kp g)) (hkp : i ∉ Kp := by decide) (hg : Gl X x := by rfl)
    (hdb : (x == ("__debug__" : Str)) = false := by decide) (he : starEach (e :: es) X.env = (false, eval e X.env) :: starEach es X.env := by rfl) (hpl : (backTo pos (starEach es X.env)).any (·.1) = false := by rfl) (hs : swapsWith (.Call (.Name x p) (e :: es) [] pos) (some (.Name y p3)) pos2.line X.env = pure false := by rfl) (hf : X.fn y = true ∨ X.env.scope.names.lookup y = some .local := by first | exact .inl rfl | exact .inr rfl | assumption) :
    PSs X (.Assign [.Name y p3] (.Call (.Name x p) (e :: es) [] pos) pos2 :: rest) (dS X.K W (startM i m fa fun _ => g)) := by
  obtain ⟨f, fd, ps, h1, h3, h4, h5, h7⟩ := C.ex
  exact (pss_cons (ps_set hN hi hx (pe_callSD h1 (hr.mono hj) hg h3 h4 h5 .nil (fun σ pins H s e s' I c => c.elim) ha hdb he hpl) hs hf) h2).wk fun _ _ _ q => dS_start2 h7 hkp q
theorem pss_two {xe xe2 one : Expr} {pos3 : Pos} (hN : X.N.Nodup) (hi : X.N[row]? = some y) (hx : Loc X.env.scope y) (hv : PE X xe (tVar i)) (he : PE X e (dE X.K W fd)) (h1 : PE X one (tC (.int (1 : Nat)))) (hv2 : PE X xe2 (tVar i)) (h3 : PS X st3 (dK X.K W [i, row] g)) (hxr : i ≠ row := by decide) (ix1 : PlainIx e := by exact fun _ _ => rfl) (ix2 : PlainIx one := by exact fun _ _ => rfl)
    (hs : swapsWith (.Subscript (.Subscript xe e p1) one p2) (some (.Name y p3)) pos.line X.env = pure false := by rfl) (hf : X.fn y = true ∨ X.env.scope.names.lookup y = some .local := by first | exact .inl rfl | exact .inr rfl | assumption) :
    PSs X [.Assign [.Name y p3] (.Subscript (.Subscript xe e p1) one p2) pos, st3, .Return (some xe2) pos3] (dM2 X.K W i Kp (twoM i fd Kp row g)) :=
  (pss_cons (ps_set hN hi hx (pe_ix ix_seq (pe_ix ix_seq hv he ix1) h1 ix2) hs hf) (pss_cons h3 (pss_one (ps_ret hv2)))).wk fun _ _ _ q => dM_two hxr q
end
end
end Dw
namespace Dw
noncomputable section
open PySem PySem.Spec PyProof.Rows L2
variable [Glo] [Tabs]
section
variable {env : Sl} {N B Ct : Sl → Prop} {R : QE} {E : QX} {K : Ks} {x row i j : Nat} {Kp : List Nat} {g : SS} {a b : D} {L1 L2 : List D} {fa fb fd : SE}
def nKs : Ks := ⟨fun _ _ => False, nS, nS, nE⟩
theorem w_retTT (q : wE fa env (fun u e1 => ∃ a, u = .d a ∧ ∃ b1 L1, e1[i]? = some (.own b1 (.lst L1)) ∧ wE fb (e1.set i (.d (.lst L1))) (fun w e2 => ∃ b, w = .d b ∧ ∃ b2 L2, e2[j]? = some (.own b2 (.lst L2)) ∧ R (.d (pairT a b L1 L2)) (e2.set j (.d (.lst L2)))) nE) nE) : wS (retTT fa i fb j) env N ⟨R, B, Ct, E⟩ := by
  show wrs (retTT fa i fb j env) N _
  have q : wr (fa env) _ nE := q
  unfold retTT
  cases h1 : fa env with
  | none => rw [h1] at q; exact q.elim
  | some r =>
    rw [h1] at q
    cases r with
    | ex _ _ => exact q.elim
    | ok u e1 =>
      obtain ⟨a, rfl, b1, L1, h2, q⟩ := q
      have q : wr (fb (e1.set i (.d (.lst L1)))) _ nE := q
      dsimp only
      rw [h2]
      dsimp only
      cases h3 : fb (e1.set i (.d (.lst L1))) with
      | none => rw [h3] at q; exact q.elim
      | some r =>
        rw [h3] at q
        cases r with
        | ex _ _ => exact q.elim
        | ok u e2 =>
          obtain ⟨b, rfl, b2, L2, h4, q⟩ := q
          dsimp only
          rw [h4]
          exact q
theorem w_twoM (hx : env[x]? = some (.d (pairT a b L1 L2))) (na : noL a = true) (nb : noL b = true) (n1 : noLs L1 = true) (n2 : noLs L2 = true)
    (q : wE fd env (fun u e2 => ∃ d : Int, u = .d (.int d) ∧ (d = 0 ∨ d = 1) ∧ row < e2.length ∧ wS g (meltSl Kp [] row (if d = 0 then L1 else L2) env e2) (fun e4 => ∃ b0 L', e4[row]? = some (.own b0 (.lst L')) ∧ R (.d (if d = 0 then pairT a b L' L2 else pairT a b L1 L')) (e4.set row (.d (.lst L')))) nKs) nE) : wS (twoM x fd Kp row g) env N ⟨R, B, Ct, E⟩ := by
  show wrs (twoM x fd Kp row g env) N _
  have q : wr (fd env) _ nE := q
  unfold twoM
  rw [hx]
  unfold pairT
  dsimp only
  cases h1 : fd env with
  | none => rw [h1] at q; exact q.elim
  | some r =>
    rw [h1] at q
    cases r with
    | ex _ _ => exact q.elim
    | ok u e2 =>
      obtain ⟨d, rfl, hd, hr, q⟩ := q
      dsimp only
      have c : (noL a && noL b && noLs L1 && noLs L2 && decide (row < e2.length) && decide (d = 0 ∨ d = 1)) = true := by
        rw [na, nb, n1, n2, decide_eq_true hr, decide_eq_true hd]
        rfl
      rw [if_pos c]
      have q : wrs (g (meltSl Kp [] row (if d = 0 then L1 else L2) env e2)) _ nKs := q
      cases h2 : g (meltSl Kp [] row (if d = 0 then L1 else L2) env e2) with
      | none => rw [h2] at q; exact q.elim
      | some r =>
        rw [h2] at q
        cases r with
        | nx e4 =>
          obtain ⟨b0, L', h3, q⟩ := q
          dsimp only
          rw [h3]
          exact q
        | rt _ _ => exact q.elim
        | bk _ => exact q.elim
        | ct _ => exact q.elim
        | ex _ _ => exact q.elim
end
end
end Dw
namespace P_talkalike_k55_kinds_of_pairs
noncomputable section
open PySem PySem.Spec PyProof.Rows L2 Dw
variable [GI : Glo] [TI : Tabs]
def topS (i : Nat) : Stmt := PySem.Challenge.pw_talkalike_k55_kinds_of_pairs.main.body.getD i (.Pass ⟨0, 0, 0, 0⟩)
abbrev s_is_plain : Stmt := topS 1
theorem sc_is_plain : FnScope ["pattern"] ["pattern"] (defScope s_is_plain) := ⟨rfl, rfl, rfl, by decide +kernel, rfl, by decide +kernel, by decide +kernel⟩
def b_is_plain : SS :=
    (retS (andE (two (op2 notInG) (constE (.str [63])) (varE 0)) (two (op2 notInG) (constE (.str [42])) (varE 0))))
def m_is_plain : List SV → Option FR := defM 1 0 b_is_plain
theorem ok_is_plain {P : Program} {w : World} {K : PySem.W.Frag} {mg : Str → Option Value} {base : Heap} {f : Addr} {fd : FuncData} (F : Fun K "is_plain" "is_plain" s_is_plain f fd)   : FnOk P w K mg base CX0 1 f fd ["pattern"] (spD K 1 m_is_plain) :=
  fnd (k := 0) (n := 0) F sc_is_plain rfl fun cdv A outer s H E hr =>
    (pss_done (ps_dret (Dw.pd_and (pd_notInG (r65 hr) (pd_str [63] (by rfl)) (pd_var (pv 0))) (Dw.pd_one (pd_notInG (r65 hr) (pd_str [42] (by rfl)) (pd_var (pv 0)))))))
abbrev s_start_lengths : Stmt := topS 2
theorem sc_start_lengths : FnScope ["pattern", "stars"] ["pattern"] (defScope s_start_lengths) := ⟨rfl, rfl, rfl, by decide +kernel, rfl, by decide +kernel, by decide +kernel⟩
def b_start_lengths : SS :=
    (seqS (asgS 1 (two (op2 subD) (callE lenD (consA (varE 0) nilA)) (callE lenD (consA (metE "str" (textM lstripL) (varE 0) (consA (constE (.str [42])) nilA)) nilA))))
    (retS (rgD tupRV (two (op2 addD) (varE 1) (constE (.int 1))))))
def m_start_lengths : List SV → Option FR := defM 1 1 b_start_lengths
theorem ok_start_lengths {P : Program} {w : World} {K : PySem.W.Frag} {mg : Str → Option Value} {base : Heap} {f : Addr} {fd : FuncData} (F : Fun K "start_lengths" "start_lengths" s_start_lengths f fd) (z_len : mg "len" = none) (z_range : mg "range" = none) (z_tuple : mg "tuple" = none)  : FnOk P w K mg base CX0 1 f fd ["pattern"] (spD K 1 m_start_lengths) :=
  fnd (k := 0) (n := 1) F sc_start_lengths rfl fun cdv A outer s H E hr =>
    (pss_dcons (ps_dset (i := 1) sc_start_lengths.nd rfl (.inl rfl) (pd_sub (pd_callB cr_len snd_len z_len rfl (pa_dcons (pd_var (pv 0)) pa_dnil)) (pd_callB cr_len snd_len z_len rfl (pa_dcons (pd_met (.inl rfl) PySem.F.plainAttrs_str PySem.F.slot_str_lstrip PySem.F.type_str_lstrip mt_lstripChars snd_lstrip (pd_var (pv 0)) (pa_dcons (pd_str [42] (by rfl)) pa_dnil)) pa_dnil))))
    (pss_done (ps_dret (pd_tupRg rfl z_tuple z_range (pd_add (pd_var (pv 1)) pd_int)))))
abbrev s_next_lengths : Stmt := topS 3
theorem sc_next_lengths : FnScope ["pattern", "lengths", "letter", "found", "matched", "index", "sign"] ["pattern", "lengths", "letter"] (defScope s_next_lengths) := ⟨rfl, rfl, rfl, by decide +kernel, rfl, by decide +kernel, by decide +kernel⟩
def l_next_lengths_1 : SS :=
    (seqS (iteS (two (op2 eqD) (varE 6) (constE (.str [42]))) (asgS 4 (orE (varE 4) (two (op2 inG) (two (op2 addD) (varE 5) (constE (.int 1))) (varE 1)))) (asgS 4 (andE (two (op2 inG) (varE 5) (varE 1)) (two (op2 inG) (varE 6) (tupE (consA (constE (.str [63])) (consA (varE 2) nilA)))))))
    (iteS (varE 4) (exprS (mutE appU (varE 3) (consA (two (op2 addD) (varE 5) (constE (.int 1))) nilA))) skipS))
def b_next_lengths : SS :=
    (seqS (asgS 3 (lstE nilA))
    (seqS (asgS 4 (constE (.bl false)))
    (seqS (forS (enumE (consA (varE 0) nilA)) (.two 5 6) l_next_lengths_1)
    (retS (callE tupleC (consA (varE 3) nilA))))))
def m_next_lengths : List SV → Option FR := defM 3 4 b_next_lengths
theorem ok_next_lengths {P : Program} {w : World} {K : PySem.W.Frag} {mg : Str → Option Value} {base : Heap} {f : Addr} {fd : FuncData} (F : Fun K "next_lengths" "next_lengths" s_next_lengths f fd) (z_enumerate : mg "enumerate" = none) (z_tuple : mg "tuple" = none)  : FnOk P w K mg base CX0 1 f fd ["pattern", "lengths", "letter"] (spD K 3 m_next_lengths) :=
  fnd (k := 0) (n := 4) F sc_next_lengths rfl fun cdv A outer s H E hr =>
    (pss_dcons (ps_dset (i := 3) sc_next_lengths.nd rfl (.inl rfl) (pd_lst pa_dnil))
    (pss_dcons (ps_dset (i := 4) sc_next_lengths.nd rfl (.inl rfl) pd_bl)
    (pss_dcons (ps_dfor PassesOwn.never rfl (pi_denum z_enumerate (pa_dcons (pd_var (pv 0)) pa_dnil)) (pg_dtwo sc_next_lengths.nd rfl rfl (.inl rfl) rfl (.inl rfl)) (pss_dcons (ps_dif (pt_eqd hr.units (pd_var (pv 6)) (pd_str [42] (by rfl))) (pss_done (ps_dset (i := 4) sc_next_lengths.nd rfl (.inl rfl) (Dw.pd_or (pd_var (pv 4)) (Dw.pd_one (pd_inG (r65 hr) (pd_add (pd_var (pv 5)) pd_int) (pd_var (pv 1))))))) (pss_done (ps_dset (i := 4) sc_next_lengths.nd rfl (.inl rfl) (Dw.pd_and (pd_inG (r65 hr) (pd_var (pv 5)) (pd_var (pv 1))) (Dw.pd_one (pd_inG (r65 hr) (pd_var (pv 6)) (pd_tup (pa_dcons (pd_str [63] (by rfl)) (pa_dcons (pd_var (pv 2)) pa_dnil)))))))))
    (pss_done (ps_dif (pt_d (pd_var (pv 4))) (pss_done (ps_dexpr (pd_append (pd_var (pv 3)) (pa_dcons (pd_add (pd_var (pv 5)) pd_int) pa_dnil)))) pss_dnil))))
    (pss_done (ps_dret (pd_callTy cr_tuple snd_tuple z_tuple rfl (pa_dcons (pd_var (pv 3)) pa_dnil)))))))
abbrev s_matches : Stmt := topS 4
theorem sc_matches : FnScope ["pattern", "text", "lengths", "letter"] ["pattern", "text"] (defScope s_matches) := ⟨rfl, rfl, rfl, by decide +kernel, rfl, by decide +kernel, by decide +kernel⟩
def l_matches_1 : SS :=
    (asgS 2 (callD m_next_lengths [] (consA (varE 0) (consA (varE 2) (consA (varE 3) nilA)))))
def b_matches : SS :=
    (seqS (iteS (callD m_is_plain [] (consA (varE 0) nilA)) (retS (two (op2 eqD) (varE 0) (varE 1))) skipS)
    (seqS (asgS 2 (callD m_start_lengths [] (consA (varE 0) nilA)))
    (seqS (forS (srcE (varE 1)) (.nm 3) l_matches_1)
    (retS (two (op2 inG) (callE lenD (consA (varE 0) nilA)) (varE 2))))))
def m_matches : List SV → Option FR := defM 2 2 b_matches
theorem ok_matches {P : Program} {w : World} {K : PySem.W.Frag} {mg : Str → Option Value} {base : Heap} {f : Addr} {fd : FuncData} (F : Fun K "matches" "matches" s_matches f fd) (z_len : mg "len" = none) (c_is_plain : Def P w K mg base 1 "is_plain" 1 m_is_plain []) (c_start_lengths : Def P w K mg base 1 "start_lengths" 1 m_start_lengths []) (c_next_lengths : Def P w K mg base 1 "next_lengths" 3 m_next_lengths []) : FnOk P w K mg base CX0 2 f fd ["pattern", "text"] (spD K 2 m_matches) :=
  fnd (k := 1) (n := 2) F sc_matches rfl fun cdv A outer s H E hr =>
    (pss_dcons (ps_dif (pt_d (pd_callN c_is_plain hr (by decide) (pa_dcons (pd_var (pv 0)) pa_dnil))) (pss_done (ps_dret (pd_eq hr.units (pd_var (pv 0)) (pd_var (pv 1))))) pss_dnil)
    (pss_dcons (ps_dset (i := 2) sc_matches.nd rfl (.inl rfl) (pd_callN c_start_lengths hr (by decide) (pa_dcons (pd_var (pv 0)) pa_dnil)))
    (pss_dcons (ps_dfor PassesOwn.never rfl (pi_dsrc (pd_var (pv 1))) (pg_dnm sc_matches.nd rfl (.inl rfl)) (pss_done (ps_dset (i := 2) sc_matches.nd rfl (.inl rfl) (pd_callN c_next_lengths hr (by decide) (pa_dcons (pd_var (pv 0)) (pa_dcons (pd_var (pv 2)) (pa_dcons (pd_var (pv 3)) pa_dnil)))))))
    (pss_done (ps_dret (pd_inG (r65 hr) (pd_callB cr_len snd_len z_len rfl (pa_dcons (pd_var (pv 0)) pa_dnil)) (pd_var (pv 2))))))))
abbrev s_class_of : Stmt := topS 6
theorem sc_class_of : FnScope ["patterns", "text", "pattern"] ["patterns", "text"] (defScope s_class_of) := ⟨rfl, rfl, rfl, by decide +kernel, rfl, by decide +kernel, by decide +kernel⟩
def e_class_of_1 : SE :=
    (callD m_matches [] (consA (varE 2) (consA (varE 1) nilA)))
def b_class_of : SS :=
    (retS (callE tupleC (consA (compE [2] (srcE (varE 0)) (.nm 2) none e_class_of_1) nilA)))
def m_class_of : List SV → Option FR := defM 2 1 b_class_of
theorem ok_class_of {P : Program} {w : World} {K : PySem.W.Frag} {mg : Str → Option Value} {base : Heap} {f : Addr} {fd : FuncData} (F : Fun K "class_of" "class_of" s_class_of f fd) (z_tuple : mg "tuple" = none) (c_matches : Def P w K mg base 2 "matches" 2 m_matches []) : FnOk P w K mg base CX0 3 f fd ["patterns", "text"] (spD K 2 m_class_of) :=
  fnd (k := 2) (n := 1) F sc_class_of rfl fun cdv A outer s H E hr =>
    (pss_done (ps_dret (pd_callTy cr_tuple snd_tuple z_tuple rfl (pa_dcons (pd_comp (own := [("pattern", 2)]) (by rfl) sc_class_of.nd (blk_of (N := ["patterns", "text", "pattern"]) (sc := defScope s_class_of) (by decide +kernel)) (by rfl) (pi_dsrc (pd_var (pv 0))) (fun s H C cl fp => (pg_dnm sc_class_of.nd rfl (.inl rfl))) (fun s H C cl fp => pts_dnil) (fun s H C cl fp => (pd_callN c_matches hr (by decide) (pa_dcons (pd_var (pv 2)) (pa_dcons (pd_var (pv 1)) pa_dnil))))) pa_dnil))))
abbrev s_is_own : Stmt := topS 8
theorem sc_is_own : FnScope ["value"] ["value"] (defScope s_is_own) := ⟨rfl, rfl, rfl, by decide +kernel, rfl, by decide +kernel, by decide +kernel⟩
def b_is_own : SS :=
    (retS (isiE "tuple" (varE 0)))
def m_is_own : List SV → Option FR := defM 1 0 b_is_own
theorem ok_is_own {P : Program} {w : World} {K : PySem.W.Frag} {mg : Str → Option Value} {base : Heap} {f : Addr} {fd : FuncData} (F : Fun K "is_own" "is_own" s_is_own f fd) (z_isinstance : mg "isinstance" = none) (z_tuple : mg "tuple" = none)  : FnOk P w K mg base CX0 1 f fd ["value"] (spD K 1 m_is_own) :=
  fnd (k := 0) (n := 0) F sc_is_own rfl fun cdv A outer s H E hr =>
    (pss_done (ps_dret (pd_isi (n := "tuple") (by decide) z_isinstance z_tuple rfl (pd_var (pv 0)))))
abbrev s_part_of_kind : Stmt := topS 12
theorem sc_part_of_kind : FnScope ["classes", "value", "held", "together"] ["classes", "value", "held", "together"] (defScope s_part_of_kind) := ⟨rfl, rfl, rfl, by decide +kernel, rfl, by decide +kernel, by decide +kernel⟩
def b_part_of_kind : SS :=
    (seqS (iteS (isiE "str" (varE 1)) (retS (tupE (consA (two (op2 getK) (varE 0) (varE 1)) (consA (metE "list" indexLD (varE 3) (consA (varE 1) nilA)) nilA)))) skipS)
    (seqS (iteS (callD m_is_own [] (consA (varE 1) nilA)) (retS (tupE (consA (constE (.str [111, 119, 110])) (consA (metE "list" indexLD (varE 2) (consA (varE 1) nilA)) nilA)))) skipS)
    (seqS (iteS (orE (two (op2 isD) (varE 1) (constE .non)) (two (op2 eqD) (varE 1) (constE (.int 0)))) (retS (varE 1)) skipS)
    (retS (tupE (consA (constE (.str [107, 110, 111, 119, 110])) (consA (metE "list" indexLD (varE 3) (consA (varE 1) nilA)) nilA)))))))
def m_part_of_kind : List SV → Option FR := defM 4 0 b_part_of_kind
theorem ok_part_of_kind {P : Program} {w : World} {K : PySem.W.Frag} {mg : Str → Option Value} {base : Heap} {f : Addr} {fd : FuncData} (F : Fun K "part_of_kind" "part_of_kind" s_part_of_kind f fd) (z_isinstance : mg "isinstance" = none) (z_str : mg "str" = none) (c_is_own : Def P w K mg base 1 "is_own" 1 m_is_own []) : FnOk P w K mg base CX0 2 f fd ["classes", "value", "held", "together"] (spD K 4 m_part_of_kind) :=
  fnd (k := 1) (n := 0) F sc_part_of_kind rfl fun cdv A outer s H E hr =>
    (pss_dcons (ps_dif (pt_d (pd_isi (n := "str") (by decide) z_isinstance z_str rfl (pd_var (pv 1)))) (pss_done (ps_dret (pd_tup (pa_dcons (pd_getK hr (pd_var (pv 0)) (pd_var (pv 1))) (pa_dcons (pd_met (.inr rfl) PySem.F.plainAttrs_list PySem.F.slot_list_index PySem.F.type_list_index (mt_indexD (r65 hr)) snd_indexLD (pd_var (pv 3)) (pa_dcons (pd_var (pv 1)) pa_dnil)) pa_dnil))))) pss_dnil)
    (pss_dcons (ps_dif (pt_d (pd_callN c_is_own hr (by decide) (pa_dcons (pd_var (pv 1)) pa_dnil))) (pss_done (ps_dret (pd_tup (pa_dcons (pd_str [111, 119, 110] (by rfl)) (pa_dcons (pd_met (.inr rfl) PySem.F.plainAttrs_list PySem.F.slot_list_index PySem.F.type_list_index (mt_indexD (r65 hr)) snd_indexLD (pd_var (pv 2)) (pa_dcons (pd_var (pv 1)) pa_dnil)) pa_dnil))))) pss_dnil)
    (pss_dcons (ps_dif ((pw_dor (pt_isd (pd_var (pv 1)) pd_non) (pw_dor1 (pt_eqd hr.units (pd_var (pv 1)) pd_int)))).pt (pss_done (ps_dret (pd_var (pv 1)))) pss_dnil)
    (pss_done (ps_dret (pd_tup (pa_dcons (pd_str [107, 110, 111, 119, 110] (by rfl)) (pa_dcons (pd_met (.inr rfl) PySem.F.plainAttrs_list PySem.F.slot_list_index PySem.F.type_list_index (mt_indexD (r65 hr)) snd_indexLD (pd_var (pv 3)) (pa_dcons (pd_var (pv 1)) pa_dnil)) pa_dnil))))))))
abbrev s_kind_with : Stmt := topS 11
theorem sc_kind_with : FnScope ["classes", "pair", "together", "one", "held", "other", "behind", "value"] ["classes", "pair"] (defScope s_kind_with) := ⟨rfl, rfl, rfl, by decide +kernel, rfl, by decide +kernel, by decide +kernel⟩
def e_kind_with_1 : SE :=
    (callD m_part_of_kind [] (consA (varE 0) (consA (varE 7) (consA (varE 6) (consA (varE 2) nilA)))))
def e_kind_with_2 : SE :=
    (callD m_part_of_kind [] (consA (varE 0) (consA (varE 7) (consA (varE 4) (consA (varE 2) nilA)))))
def b_kind_with : SS :=
    (seqS (asgT (.cons (.two 3 4) (.cons (.two 5 6) .nil)) (varE 1))
    (seqS (asgS 2 (two (op2 addD) (varE 4) (varE 6)))
    (retS (tupE (consA (varE 3) (consA (varE 5) (starA (compE [7] (srcE (varE 4)) (.nm 7) none e_kind_with_2) (starA (compE [7] (srcE (varE 6)) (.nm 7) none e_kind_with_1) nilA))))))))
def m_kind_with : List SV → Option FR := defM 2 6 b_kind_with
theorem ok_kind_with {P : Program} {w : World} {K : PySem.W.Frag} {mg : Str → Option Value} {base : Heap} {f : Addr} {fd : FuncData} (F : Fun K "kind_with" "kind_with" s_kind_with f fd)  (c_part_of_kind : Def P w K mg base 2 "part_of_kind" 4 m_part_of_kind []) : FnOk P w K mg base CX0 3 f fd ["classes", "pair"] (spD K 2 m_kind_with) :=
  fnd (k := 2) (n := 6) F sc_kind_with rfl fun cdv A outer s H E hr =>
    (pss_dcons (ps_dasgT (pd_var (pv 1)) (pg_dtu rfl (pgt_cons (pg_dtwo sc_kind_with.nd rfl rfl (.inl rfl) rfl (.inr rfl)) (pgt_cons (pg_dtwo sc_kind_with.nd rfl rfl (.inl rfl) rfl (.inr rfl)) pgt_nil))))
    (pss_dcons (ps_dset (i := 2) sc_kind_with.nd rfl (.inr rfl) (pd_add (pd_var (pv 4)) (pd_var (pv 6))))
    (pss_done (ps_dret (pd_tup (pa_dcons (pd_var (pv 3)) (pa_dcons (pd_var (pv 5)) (pa_dstar (pd_comp (own := [("value", 7)]) (by rfl) sc_kind_with.nd (blk_of (N := ["classes", "pair", "together", "one", "held", "other", "behind", "value"]) (sc := defScope s_kind_with) (by decide +kernel)) (by rfl) (pi_dsrc (pd_var (pv 4))) (fun s H C cl fp => (pg_dnm sc_kind_with.nd rfl (.inl rfl))) (fun s H C cl fp => pts_dnil) (fun s H C cl fp => (pd_callN c_part_of_kind hr (by decide) (pa_dcons (pd_var (pv 0)) (pa_dcons (pd_var (pv 7)) (pa_dcons (pd_var (pv 4)) (pa_dcons (pd_var (pv 2)) pa_dnil))))))) (pa_dstar (pd_comp (own := [("value", 7)]) (by rfl) sc_kind_with.nd (blk_of (N := ["classes", "pair", "together", "one", "held", "other", "behind", "value"]) (sc := defScope s_kind_with) (by decide +kernel)) (by rfl) (pi_dsrc (pd_var (pv 6))) (fun s H C cl fp => (pg_dnm sc_kind_with.nd rfl (.inl rfl))) (fun s H C cl fp => pts_dnil) (fun s H C cl fp => (pd_callN c_part_of_kind hr (by decide) (pa_dcons (pd_var (pv 0)) (pa_dcons (pd_var (pv 7)) (pa_dcons (pd_var (pv 6)) (pa_dcons (pd_var (pv 2)) pa_dnil))))))) pa_dnil)))))))))
abbrev s_values_held : Stmt := topS 15
theorem sc_values_held : FnScope ["pair", "value", "_", "held"] ["pair"] (defScope s_values_held) := ⟨rfl, rfl, rfl, by decide +kernel, rfl, by decide +kernel, by decide +kernel⟩
def e_values_held_1 : SE :=
    (varE 1)
def b_values_held : SS :=
    (retS (cmpN (emL e_values_held_1) (.lst []) ⟨(srcE (varE 0)), (.two 2 3), none, [2, 3, 1]⟩ [⟨(srcE (varE 3)), (.nm 1), (some (andE (two (op2 isNotD) (varE 1) (constE .non)) (notE (callD m_is_own [] (consA (varE 1) nilA))))), [1]⟩]))
def m_values_held : List SV → Option FR := defM 1 3 b_values_held
theorem ok_values_held {P : Program} {w : World} {K : PySem.W.Frag} {mg : Str → Option Value} {base : Heap} {f : Addr} {fd : FuncData} (F : Fun K "values_held" "values_held" s_values_held f fd)  (c_is_own : Def P w K mg base 1 "is_own" 1 m_is_own []) : FnOk P w K mg base CX0 2 f fd ["pair"] (spD K 1 m_values_held) :=
  fnd (k := 1) (n := 3) F sc_values_held rfl fun cdv A outer s H E hr =>
    (pss_done (ps_dret (pd_lc2 (own := [("_", 2), ("held", 3), ("value", 1)]) (by rfl) rfl sc_values_held.nd (blk_of (N := ["pair", "value", "_", "held"]) (sc := defScope s_values_held) (by decide +kernel)) (by rfl) (pi_dsrc (pd_var (pv 0))) (fun s H C cl fp => ⟨(pg_dtwo sc_values_held.nd rfl rfl (.inl rfl) rfl (.inl rfl)), pts_dnil⟩) (fun s H C cl fp => ⟨(pi_dsrc (pd_var (pv 3))), (pg_dnm sc_values_held.nd rfl (.inl rfl)), (pts_done ((pw_dand (pt_isNotd (pd_var (pv 1)) pd_non) (pw_dand1 (pt_dnot (pt_d (pd_callN c_is_own hr (by decide) (pa_dcons (pd_var (pv 1)) pa_dnil))))))).pt)⟩) (fun s H C cl fp => (pd_var (pv 1))))))
abbrev s_classes_held : Stmt := topS 14
theorem sc_classes_held : FnScope ["patterns", "pair", "value"] ["patterns", "pair"] (defScope s_classes_held) := ⟨rfl, rfl, rfl, by decide +kernel, rfl, by decide +kernel, by decide +kernel⟩
def k_classes_held_1 : SE :=
    (varE 2)
def e_classes_held_2 : SE :=
    (callD m_class_of [] (consA (varE 0) (consA (varE 2) nilA)))
def b_classes_held : SS :=
    (retS (cmpN (emK k_classes_held_1 e_classes_held_2) (.dct [] []) ⟨(srcE (callD m_values_held [] (consA (varE 1) nilA))), (.nm 2), (some (isiE "str" (varE 2))), [2]⟩ []))
def m_classes_held : List SV → Option FR := defM 2 1 b_classes_held
theorem ok_classes_held {P : Program} {w : World} {K : PySem.W.Frag} {mg : Str → Option Value} {base : Heap} {f : Addr} {fd : FuncData} (F : Fun K "classes_held" "classes_held" s_classes_held f fd) (z_isinstance : mg "isinstance" = none) (z_str : mg "str" = none) (c_values_held : Def P w K mg base 2 "values_held" 1 m_values_held []) (c_class_of : Def P w K mg base 3 "class_of" 2 m_class_of []) : FnOk P w K mg base CX0 4 f fd ["patterns", "pair"] (spD K 2 m_classes_held) :=
  fnd (k := 3) (n := 1) F sc_classes_held rfl fun cdv A outer s H E hr =>
    (pss_done (ps_dret (pd_dcK1 (own := [("value", 2)]) (by rfl) rfl sc_classes_held.nd (u1_of (r65 hr)) (blk_of (N := ["patterns", "pair", "value"]) (sc := defScope s_classes_held) (by decide +kernel)) (by rfl) (pi_dsrc (pd_callN c_values_held hr (by decide) (pa_dcons (pd_var (pv 1)) pa_dnil))) (fun s H C cl fp => ⟨(pg_dnm sc_classes_held.nd rfl (.inl rfl)), (pts_done (pt_d (pd_isi (n := "str") (by decide) z_isinstance z_str rfl (pd_var (pv 2)))))⟩)  (fun s H C cl fp => (pd_var (pv 2))) (fun s H C cl fp => (pd_callN c_class_of hr (by decide) (pa_dcons (pd_var (pv 0)) (pa_dcons (pd_var (pv 2)) pa_dnil)))))))
abbrev s_kind_of : Stmt := topS 10
theorem sc_kind_of : FnScope ["patterns", "pair"] ["patterns", "pair"] (defScope s_kind_of) := ⟨rfl, rfl, rfl, by decide +kernel, rfl, by decide +kernel, by decide +kernel⟩
def b_kind_of : SS :=
    (retS (callD m_kind_with [] (consA (callD m_classes_held [] (consA (varE 0) (consA (varE 1) nilA))) (consA (varE 1) nilA))))
def m_kind_of : List SV → Option FR := defM 2 0 b_kind_of
theorem ok_kind_of {P : Program} {w : World} {K : PySem.W.Frag} {mg : Str → Option Value} {base : Heap} {f : Addr} {fd : FuncData} (F : Fun K "kind_of" "kind_of" s_kind_of f fd)  (c_classes_held : Def P w K mg base 4 "classes_held" 2 m_classes_held []) (c_kind_with : Def P w K mg base 3 "kind_with" 2 m_kind_with []) : FnOk P w K mg base CX0 5 f fd ["patterns", "pair"] (spD K 2 m_kind_of) :=
  fnd (k := 4) (n := 0) F sc_kind_of rfl fun cdv A outer s H E hr =>
    (pss_done (ps_dret (pd_callN c_kind_with hr (by decide) (pa_dcons (pd_callN c_classes_held hr (by decide) (pa_dcons (pd_var (pv 0)) (pa_dcons (pd_var (pv 1)) pa_dnil))) (pa_dcons (pd_var (pv 1)) pa_dnil)))))
abbrev s_alike : Stmt := topS 13
theorem sc_alike : FnScope ["patterns", "one", "other"] ["patterns", "one", "other"] (defScope s_alike) := ⟨rfl, rfl, rfl, by decide +kernel, rfl, by decide +kernel, by decide +kernel⟩
def b_alike : SS :=
    (retS (two (op2 eqD) (callD m_kind_of [] (consA (varE 0) (consA (varE 1) nilA))) (callD m_kind_of [] (consA (varE 0) (consA (varE 2) nilA)))))
def m_alike : List SV → Option FR := defM 3 0 b_alike
theorem ok_alike {P : Program} {w : World} {K : PySem.W.Frag} {mg : Str → Option Value} {base : Heap} {f : Addr} {fd : FuncData} (F : Fun K "alike" "alike" s_alike f fd)  (c_kind_of : Def P w K mg base 5 "kind_of" 2 m_kind_of []) : FnOk P w K mg base CX0 6 f fd ["patterns", "one", "other"] (spD K 3 m_alike) :=
  fnd (k := 5) (n := 0) F sc_alike rfl fun cdv A outer s H E hr =>
    (pss_done (ps_dret (pd_eq hr.units (pd_callN c_kind_of hr (by decide) (pa_dcons (pd_var (pv 0)) (pa_dcons (pd_var (pv 1)) pa_dnil))) (pd_callN c_kind_of hr (by decide) (pa_dcons (pd_var (pv 0)) (pa_dcons (pd_var (pv 2)) pa_dnil))))))
abbrev s_ulawudraw : Stmt := topS 17
theorem sc_ulawudraw : FnScope ["script", "k", "below", "cell", "number", "turn"] ["script", "k", "below"] (defScope s_ulawudraw) := ⟨rfl, rfl, rfl, by decide +kernel, rfl, by decide +kernel, by decide +kernel⟩
def l_ulawudraw_1 : SS :=
    (asgS 3 (two (op2 fdivD) (varE 3) (constE (.int 1000))))
def b_ulawudraw : SS :=
    (seqS (iteS (two (op2 eqD) (callE lenD (consA (varE 0) nilA)) (constE (.int 0))) (retS (constE (.int 0))) skipS)
    (seqS (asgS 3 (callE intC (consA (two (op2 getD) (varE 0) (two (op2 modD) (callE intC (consA (two (op2 fdivD) (varE 1) (constE (.int 4))) nilA)) (callE lenD (consA (varE 0) nilA)))) nilA)))
    (seqS (iteS (andE (two (op2 geD) (varE 3) (two (op2 powD) (constE (.int 10)) (constE (.int 18)))) (two (op2 ltG) (two (op2 fdivD) (varE 1) (constE (.int 4))) (callE lenD (consA (varE 0) nilA)))) (seqS (forS (argsI rng1 (consA (two (op2 modD) (callE intC (consA (varE 1) nilA)) (constE (.int 4))) nilA)) (.nm 5) l_ulawudraw_1)
    (retS (two (op2 modD) (two (op2 modD) (callE intC (consA (varE 3) nilA)) (constE (.int 1000))) (varE 2)))) skipS)
    (seqS (asgS 4 (two (op2 modD) (callE intC (consA (two (op2 addD) (two (op2 addD) (two (op2 mulD) (varE 3) (constE (.int 48271))) (two (op2 mulD) (varE 1) (constE (.int 69621)))) (constE (.int 12345))) nilA)) (constE (.int 2147483647))))
    (seqS (asgS 4 (two (op2 modD) (callE intC (consA (two (op2 addD) (two (op2 addD) (two (op2 mulD) (varE 4) (varE 4)) (two (op2 mulD) (constE (.int 16807)) (varE 1))) (constE (.int 7))) nilA)) (constE (.int 998244353))))
    (seqS (asgS 4 (two (op2 modD) (callE intC (consA (two (op2 addD) (two (op2 addD) (two (op2 mulD) (varE 4) (varE 4)) (two (op2 mulD) (constE (.int 48271)) (varE 1))) (varE 3)) nilA)) (constE (.int 2147483629))))
    (retS (two (op2 modD) (two (op2 fdivD) (varE 4) (constE (.int 13))) (varE 2)))))))))
def m_ulawudraw : List SV → Option FR := defM 3 3 b_ulawudraw
theorem ok_ulawudraw {P : Program} {w : World} {K : PySem.W.Frag} {mg : Str → Option Value} {base : Heap} {f : Addr} {fd : FuncData} (F : Fun K "_law_draw" "_law_draw" s_ulawudraw f fd) (z_int : mg "int" = none) (z_len : mg "len" = none) (z_range : mg "range" = none)  : FnOk P w K mg base CX0 1 f fd ["script", "k", "below"] (spD K 3 m_ulawudraw) :=
  fnd (k := 0) (n := 3) F sc_ulawudraw rfl fun cdv A outer s H E hr =>
    (pss_dcons (ps_dif (pt_eqd hr.units (pd_callB cr_len snd_len z_len rfl (pa_dcons (pd_var (pv 0)) pa_dnil)) pd_int) (pss_done (ps_dret pd_int)) pss_dnil)
    (pss_dcons (ps_dset (i := 3) sc_ulawudraw.nd rfl (.inl rfl) (pd_callTy cr_int snd_intC z_int rfl (pa_dcons (pd_get (pd_var (pv 0)) (pd_mod (pd_callTy cr_int snd_intC z_int rfl (pa_dcons (pd_fdiv (pd_var (pv 1)) pd_int) pa_dnil)) (pd_callB cr_len snd_len z_len rfl (pa_dcons (pd_var (pv 0)) pa_dnil)))) pa_dnil)))
    (pss_dcons (ps_dif ((pw_dand (pt_ged (pd_var (pv 3)) (pd_pow pd_int pd_int)) (pw_dand1 (pt_ltg hr.units (pd_fdiv (pd_var (pv 1)) pd_int) (pd_callB cr_len snd_len z_len rfl (pa_dcons (pd_var (pv 0)) pa_dnil)))))).pt (pss_dcons (ps_dfor PassesOwn.never rfl (pi_drange1 z_range (pa_dcons (pd_mod (pd_callTy cr_int snd_intC z_int rfl (pa_dcons (pd_var (pv 1)) pa_dnil)) pd_int) pa_dnil)) (pg_dnm sc_ulawudraw.nd rfl (.inl rfl)) (pss_done (ps_dset (i := 3) sc_ulawudraw.nd rfl (.inl rfl) (pd_fdiv (pd_var (pv 3)) pd_int))))
    (pss_done (ps_dret (pd_mod (pd_mod (pd_callTy cr_int snd_intC z_int rfl (pa_dcons (pd_var (pv 3)) pa_dnil)) pd_int) (pd_var (pv 2)))))) pss_dnil)
    (pss_dcons (ps_dset (i := 4) sc_ulawudraw.nd rfl (.inl rfl) (pd_mod (pd_callTy cr_int snd_intC z_int rfl (pa_dcons (pd_add (pd_add (pd_mul (pd_var (pv 3)) pd_int) (pd_mul (pd_var (pv 1)) pd_int)) pd_int) pa_dnil)) pd_int))
    (pss_dcons (ps_dset (i := 4) sc_ulawudraw.nd rfl (.inl rfl) (pd_mod (pd_callTy cr_int snd_intC z_int rfl (pa_dcons (pd_add (pd_add (pd_mul (pd_var (pv 4)) (pd_var (pv 4))) (pd_mul pd_int (pd_var (pv 1)))) pd_int) pa_dnil)) pd_int))
    (pss_dcons (ps_dset (i := 4) sc_ulawudraw.nd rfl (.inl rfl) (pd_mod (pd_callTy cr_int snd_intC z_int rfl (pa_dcons (pd_add (pd_add (pd_mul (pd_var (pv 4)) (pd_var (pv 4))) (pd_mul pd_int (pd_var (pv 1)))) (pd_var (pv 3))) pa_dnil)) pd_int))
    (pss_done (ps_dret (pd_mod (pd_fdiv (pd_var (pv 4)) pd_int) (pd_var (pv 2)))))))))))
abbrev s_ulawumatches : Stmt := topS 18
theorem sc_ulawumatches : FnScope ["pattern", "text", "places", "sign", "longer", "place", "end"] ["pattern", "text"] (defScope s_ulawumatches) := ⟨rfl, rfl, rfl, by decide +kernel, rfl, by decide +kernel, by decide +kernel⟩
def e_ulawumatches_1 : SE :=
    (varE 6)
def l_ulawumatches_2 : SS :=
    (seqS (iteS (two (op2 eqD) (varE 3) (constE (.str [42]))) (asgS 4 (two (op2 addD) (varE 4) (compE [6] (argsI rng2 (consA (varE 5) (consA (two (op2 addD) (callE lenD (consA (varE 1) nilA)) (constE (.int 1))) nilA))) (.nm 6) (some (two (op2 notInG) (varE 6) (varE 4))) e_ulawumatches_1))) skipS)
    (iteS (andE (two (op2 neD) (varE 3) (constE (.str [42]))) (andE (two (op2 ltG) (varE 5) (callE lenD (consA (varE 1) nilA))) (orE (two (op2 eqD) (varE 3) (constE (.str [63]))) (two (op2 eqD) (two (op2 getD) (varE 1) (varE 5)) (varE 3))))) (exprS (mutE appU (varE 4) (consA (two (op2 addD) (varE 5) (constE (.int 1))) nilA))) skipS))
def l_ulawumatches_3 : SS :=
    (seqS (asgS 4 (lstE nilA))
    (seqS (forS (srcE (varE 2)) (.nm 5) l_ulawumatches_2)
    (asgS 2 (varE 4))))
def b_ulawumatches : SS :=
    (seqS (asgS 2 (lstE (consA (constE (.int 0)) nilA)))
    (seqS (forS (srcE (varE 0)) (.nm 3) l_ulawumatches_3)
    (retS (two (op2 inG) (callE lenD (consA (varE 1) nilA)) (varE 2)))))
def m_ulawumatches : List SV → Option FR := defM 2 5 b_ulawumatches
theorem ok_ulawumatches {P : Program} {w : World} {K : PySem.W.Frag} {mg : Str → Option Value} {base : Heap} {f : Addr} {fd : FuncData} (F : Fun K "_law_matches" "_law_matches" s_ulawumatches f fd) (z_len : mg "len" = none) (z_range : mg "range" = none)  : FnOk P w K mg base CX0 1 f fd ["pattern", "text"] (spD K 2 m_ulawumatches) :=
  fnd (k := 0) (n := 5) F sc_ulawumatches rfl fun cdv A outer s H E hr =>
    (pss_dcons (ps_dset (i := 2) sc_ulawumatches.nd rfl (.inl rfl) (pd_lst (pa_dcons pd_int pa_dnil)))
    (pss_dcons (ps_dfor PassesOwn.never rfl (pi_dsrc (pd_var (pv 0))) (pg_dnm sc_ulawumatches.nd rfl (.inl rfl)) (pss_dcons (ps_dset (i := 4) sc_ulawumatches.nd rfl (.inr rfl) (pd_lst pa_dnil))
    (pss_dcons (ps_dfor PassesOwn.never rfl (pi_dsrc (pd_var (pv 2))) (pg_dnm sc_ulawumatches.nd rfl (.inl rfl)) (pss_dcons (ps_dif (pt_eqd hr.units (pd_var (pv 3)) (pd_str [42] (by rfl))) (pss_done (ps_dset (i := 4) sc_ulawumatches.nd rfl (.inr rfl) (pd_add (pd_var (pv 4)) (pd_comp (own := [("end", 6)]) (by rfl) sc_ulawumatches.nd (blk_of (N := ["pattern", "text", "places", "sign", "longer", "place", "end"]) (sc := defScope s_ulawumatches) (by decide +kernel)) (by rfl) (pi_drange2 z_range (pa_dcons (pd_var (pv 5)) (pa_dcons (pd_add (pd_callB cr_len snd_len z_len rfl (pa_dcons (pd_var (pv 1)) pa_dnil)) pd_int) pa_dnil))) (fun s H C cl fp => (pg_dnm sc_ulawumatches.nd rfl (.inl rfl))) (fun s H C cl fp => (pts_done (pt_notInGd (r65 hr) (pd_var (pv 6)) (pd_var (pv 4))))) (fun s H C cl fp => (pd_var (pv 6))))))) pss_dnil)
    (pss_done (ps_dif ((pw_dand (pt_ned hr.units (pd_var (pv 3)) (pd_str [42] (by rfl))) (pw_dand (pt_ltg hr.units (pd_var (pv 5)) (pd_callB cr_len snd_len z_len rfl (pa_dcons (pd_var (pv 1)) pa_dnil))) (pw_dand1 ((pw_dor (pt_eqd hr.units (pd_var (pv 3)) (pd_str [63] (by rfl))) (pw_dor1 (pt_eqd hr.units (pd_get (pd_var (pv 1)) (pd_var (pv 5))) (pd_var (pv 3)))))).pt)))).pt (pss_done (ps_dexpr (pd_append (pd_var (pv 4)) (pa_dcons (pd_add (pd_var (pv 5)) pd_int) pa_dnil)))) pss_dnil))))
    (pss_done (ps_dset (i := 2) sc_ulawumatches.nd rfl (.inl rfl) (pd_var (pv 4)))))))
    (pss_done (ps_dret (pd_inG (r65 hr) (pd_callB cr_len snd_len z_len rfl (pa_dcons (pd_var (pv 1)) pa_dnil)) (pd_var (pv 2)))))))
abbrev s_ulawuclass : Stmt := topS 19
theorem sc_ulawuclass : FnScope ["patterns", "text", "pattern"] ["patterns", "text"] (defScope s_ulawuclass) := ⟨rfl, rfl, rfl, by decide +kernel, rfl, by decide +kernel, by decide +kernel⟩
def e_ulawuclass_1 : SE :=
    (callD m_ulawumatches [] (consA (varE 2) (consA (varE 1) nilA)))
def b_ulawuclass : SS :=
    (retS (compE [2] (srcE (varE 0)) (.nm 2) none e_ulawuclass_1))
def m_ulawuclass : List SV → Option FR := defM 2 1 b_ulawuclass
theorem ok_ulawuclass {P : Program} {w : World} {K : PySem.W.Frag} {mg : Str → Option Value} {base : Heap} {f : Addr} {fd : FuncData} (F : Fun K "_law_class" "_law_class" s_ulawuclass f fd)  (c_ulawumatches : Def P w K mg base 1 "_law_matches" 2 m_ulawumatches []) : FnOk P w K mg base CX0 2 f fd ["patterns", "text"] (spD K 2 m_ulawuclass) :=
  fnd (k := 1) (n := 1) F sc_ulawuclass rfl fun cdv A outer s H E hr =>
    (pss_done (ps_dret (pd_comp (own := [("pattern", 2)]) (by rfl) sc_ulawuclass.nd (blk_of (N := ["patterns", "text", "pattern"]) (sc := defScope s_ulawuclass) (by decide +kernel)) (by rfl) (pi_dsrc (pd_var (pv 0))) (fun s H C cl fp => (pg_dnm sc_ulawuclass.nd rfl (.inl rfl))) (fun s H C cl fp => pts_dnil) (fun s H C cl fp => (pd_callN c_ulawumatches hr (by decide) (pa_dcons (pd_var (pv 2)) (pa_dcons (pd_var (pv 1)) pa_dnil)))))))
abbrev s_ulawusort : Stmt := topS 20
theorem sc_ulawusort : FnScope ["held"] ["held"] (defScope s_ulawusort) := ⟨rfl, rfl, rfl, by decide +kernel, rfl, by decide +kernel, by decide +kernel⟩
def b_ulawusort : SS :=
    (seqS (iteS (two (op2 isD) (varE 0) (constE .non)) (retS (constE (.int 0))) skipS)
    (seqS (iteS (isiE "tuple" (varE 0)) (retS (constE (.int 3))) skipS)
    (seqS (iteS (isiE "str" (varE 0)) (retS (constE (.int 1))) skipS)
    (retS (constE (.int 2))))))
def m_ulawusort : List SV → Option FR := defM 1 0 b_ulawusort
theorem ok_ulawusort {P : Program} {w : World} {K : PySem.W.Frag} {mg : Str → Option Value} {base : Heap} {f : Addr} {fd : FuncData} (F : Fun K "_law_sort" "_law_sort" s_ulawusort f fd) (z_isinstance : mg "isinstance" = none) (z_str : mg "str" = none) (z_tuple : mg "tuple" = none)  : FnOk P w K mg base CX0 1 f fd ["held"] (spD K 1 m_ulawusort) :=
  fnd (k := 0) (n := 0) F sc_ulawusort rfl fun cdv A outer s H E hr =>
    (pss_dcons (ps_dif (pt_isd (pd_var (pv 0)) pd_non) (pss_done (ps_dret pd_int)) pss_dnil)
    (pss_dcons (ps_dif (pt_d (pd_isi (n := "tuple") (by decide) z_isinstance z_tuple rfl (pd_var (pv 0)))) (pss_done (ps_dret pd_int)) pss_dnil)
    (pss_dcons (ps_dif (pt_d (pd_isi (n := "str") (by decide) z_isinstance z_str rfl (pd_var (pv 0)))) (pss_done (ps_dret pd_int)) pss_dnil)
    (pss_done (ps_dret pd_int)))))
abbrev s_ulawusameumark : Stmt := topS 21
theorem sc_ulawusameumark : FnScope ["patterns", "one", "other"] ["patterns", "one", "other"] (defScope s_ulawusameumark) := ⟨rfl, rfl, rfl, by decide +kernel, rfl, by decide +kernel, by decide +kernel⟩
def b_ulawusameumark : SS :=
    (seqS (iteS (two (op2 neD) (callD m_ulawusort [] (consA (varE 1) nilA)) (callD m_ulawusort [] (consA (varE 2) nilA))) (retS (constE (.bl false))) skipS)
    (seqS (iteS (isiE "str" (varE 1)) (retS (two (op2 eqD) (callD m_ulawuclass [] (consA (varE 0) (consA (varE 1) nilA))) (callD m_ulawuclass [] (consA (varE 0) (consA (varE 2) nilA))))) skipS)
    (seqS (iteS (two (op2 eqD) (callD m_ulawusort [] (consA (varE 1) nilA)) (constE (.int 2))) (retS (two (op2 eqD) (two (op2 eqD) (varE 1) (constE (.int 0))) (two (op2 eqD) (varE 2) (constE (.int 0))))) skipS)
    (retS (constE (.bl true))))))
def m_ulawusameumark : List SV → Option FR := defM 3 0 b_ulawusameumark
theorem ok_ulawusameumark {P : Program} {w : World} {K : PySem.W.Frag} {mg : Str → Option Value} {base : Heap} {f : Addr} {fd : FuncData} (F : Fun K "_law_same_mark" "_law_same_mark" s_ulawusameumark f fd) (z_isinstance : mg "isinstance" = none) (z_str : mg "str" = none) (c_ulawusort : Def P w K mg base 1 "_law_sort" 1 m_ulawusort []) (c_ulawuclass : Def P w K mg base 2 "_law_class" 2 m_ulawuclass []) : FnOk P w K mg base CX0 3 f fd ["patterns", "one", "other"] (spD K 3 m_ulawusameumark) :=
  fnd (k := 2) (n := 0) F sc_ulawusameumark rfl fun cdv A outer s H E hr =>
    (pss_dcons (ps_dif (pt_ned hr.units (pd_callN c_ulawusort hr (by decide) (pa_dcons (pd_var (pv 1)) pa_dnil)) (pd_callN c_ulawusort hr (by decide) (pa_dcons (pd_var (pv 2)) pa_dnil))) (pss_done (ps_dret pd_bl)) pss_dnil)
    (pss_dcons (ps_dif (pt_d (pd_isi (n := "str") (by decide) z_isinstance z_str rfl (pd_var (pv 1)))) (pss_done (ps_dret (pd_eq hr.units (pd_callN c_ulawuclass hr (by decide) (pa_dcons (pd_var (pv 0)) (pa_dcons (pd_var (pv 1)) pa_dnil))) (pd_callN c_ulawuclass hr (by decide) (pa_dcons (pd_var (pv 0)) (pa_dcons (pd_var (pv 2)) pa_dnil)))))) pss_dnil)
    (pss_dcons (ps_dif (pt_eqd hr.units (pd_callN c_ulawusort hr (by decide) (pa_dcons (pd_var (pv 1)) pa_dnil)) pd_int) (pss_done (ps_dret (pd_eq hr.units (pd_eq hr.units (pd_var (pv 1)) pd_int) (pd_eq hr.units (pd_var (pv 2)) pd_int)))) pss_dnil)
    (pss_done (ps_dret pd_bl)))))
abbrev s_ulawulinked : Stmt := topS 22
theorem sc_ulawulinked : FnScope ["row", "i", "j", "split"] ["row", "i", "j", "split"] (defScope s_ulawulinked) := ⟨rfl, rfl, rfl, by decide +kernel, rfl, by decide +kernel, by decide +kernel⟩
def b_ulawulinked : SS :=
    (seqS (iteS (orE (two (op2 isD) (two (op2 getD) (varE 0) (varE 1)) (constE .non)) (two (op2 neD) (callD m_ulawusort [] (consA (two (op2 getD) (varE 0) (varE 1)) nilA)) (callD m_ulawusort [] (consA (two (op2 getD) (varE 0) (varE 2)) nilA)))) (retS (constE (.bl false))) skipS)
    (seqS (iteS (andE (two (op2 eqD) (callD m_ulawusort [] (consA (two (op2 getD) (varE 0) (varE 1)) nilA)) (constE (.int 3))) (two (op2 neD) (two (op2 ltG) (varE 1) (varE 3)) (two (op2 ltG) (varE 2) (varE 3)))) (retS (constE (.bl false))) skipS)
    (retS (two (op2 eqD) (two (op2 getD) (varE 0) (varE 1)) (two (op2 getD) (varE 0) (varE 2))))))
def m_ulawulinked : List SV → Option FR := defM 4 0 b_ulawulinked
theorem ok_ulawulinked {P : Program} {w : World} {K : PySem.W.Frag} {mg : Str → Option Value} {base : Heap} {f : Addr} {fd : FuncData} (F : Fun K "_law_linked" "_law_linked" s_ulawulinked f fd)  (c_ulawusort : Def P w K mg base 1 "_law_sort" 1 m_ulawusort []) : FnOk P w K mg base CX0 2 f fd ["row", "i", "j", "split"] (spD K 4 m_ulawulinked) :=
  fnd (k := 1) (n := 0) F sc_ulawulinked rfl fun cdv A outer s H E hr =>
    (pss_dcons (ps_dif ((pw_dor (pt_isd (pd_get (pd_var (pv 0)) (pd_var (pv 1))) pd_non) (pw_dor1 (pt_ned hr.units (pd_callN c_ulawusort hr (by decide) (pa_dcons (pd_get (pd_var (pv 0)) (pd_var (pv 1))) pa_dnil)) (pd_callN c_ulawusort hr (by decide) (pa_dcons (pd_get (pd_var (pv 0)) (pd_var (pv 2))) pa_dnil)))))).pt (pss_done (ps_dret pd_bl)) pss_dnil)
    (pss_dcons (ps_dif ((pw_dand (pt_eqd hr.units (pd_callN c_ulawusort hr (by decide) (pa_dcons (pd_get (pd_var (pv 0)) (pd_var (pv 1))) pa_dnil)) pd_int) (pw_dand1 (pt_ned hr.units (pd_ltg hr.units (pd_var (pv 1)) (pd_var (pv 3))) (pd_ltg hr.units (pd_var (pv 2)) (pd_var (pv 3))))))).pt (pss_done (ps_dret pd_bl)) pss_dnil)
    (pss_done (ps_dret (pd_eq hr.units (pd_get (pd_var (pv 0)) (pd_var (pv 1))) (pd_get (pd_var (pv 0)) (pd_var (pv 2))))))))
abbrev s_ulawualike : Stmt := topS 23
theorem sc_ulawualike : FnScope ["patterns", "one", "other", "row", "beside", "split", "i", "j"] ["patterns", "one", "other"] (defScope s_ulawualike) := ⟨rfl, rfl, rfl, by decide +kernel, rfl, by decide +kernel, by decide +kernel⟩
def l_ulawualike_1 : SS :=
    (iteS (two (op2 neD) (callD m_ulawulinked [] (consA (varE 3) (consA (varE 6) (consA (varE 7) (consA (varE 5) nilA))))) (callD m_ulawulinked [] (consA (varE 4) (consA (varE 6) (consA (varE 7) (consA (varE 5) nilA)))))) (retS (constE (.bl false))) skipS)
def l_ulawualike_2 : SS :=
    (seqS (iteS (notE (callD m_ulawusameumark [] (consA (varE 0) (consA (two (op2 getD) (varE 3) (varE 6)) (consA (two (op2 getD) (varE 4) (varE 6)) nilA))))) (retS (constE (.bl false))) skipS)
    (forS (argsI rng1 (consA (varE 6) nilA)) (.nm 7) l_ulawualike_1))
def b_ulawualike : SS :=
    (seqS (iteS (orE (two (op2 neD) (two (op2 getD) (two (op2 getD) (varE 1) (constE (.int 0))) (constE (.int 0))) (two (op2 getD) (two (op2 getD) (varE 2) (constE (.int 0))) (constE (.int 0)))) (two (op2 neD) (two (op2 getD) (two (op2 getD) (varE 1) (constE (.int 1))) (constE (.int 0))) (two (op2 getD) (two (op2 getD) (varE 2) (constE (.int 1))) (constE (.int 0))))) (retS (constE (.bl false))) skipS)
    (seqS (asgS 3 (two (op2 addD) (callE listG (consA (two (op2 getD) (two (op2 getD) (varE 1) (constE (.int 0))) (constE (.int 1))) nilA)) (callE listG (consA (two (op2 getD) (two (op2 getD) (varE 1) (constE (.int 1))) (constE (.int 1))) nilA))))
    (seqS (asgS 4 (two (op2 addD) (callE listG (consA (two (op2 getD) (two (op2 getD) (varE 2) (constE (.int 0))) (constE (.int 1))) nilA)) (callE listG (consA (two (op2 getD) (two (op2 getD) (varE 2) (constE (.int 1))) (constE (.int 1))) nilA))))
    (seqS (asgS 5 (callE lenD (consA (two (op2 getD) (two (op2 getD) (varE 1) (constE (.int 0))) (constE (.int 1))) nilA)))
    (seqS (forS (argsI rng1 (consA (callE lenD (consA (varE 3) nilA)) nilA)) (.nm 6) l_ulawualike_2)
    (retS (constE (.bl true))))))))
def m_ulawualike : List SV → Option FR := defM 3 5 b_ulawualike
theorem ok_ulawualike {P : Program} {w : World} {K : PySem.W.Frag} {mg : Str → Option Value} {base : Heap} {f : Addr} {fd : FuncData} (F : Fun K "_law_alike" "_law_alike" s_ulawualike f fd) (z_len : mg "len" = none) (z_list : mg "list" = none) (z_range : mg "range" = none) (c_ulawusameumark : Def P w K mg base 3 "_law_same_mark" 3 m_ulawusameumark []) (c_ulawulinked : Def P w K mg base 2 "_law_linked" 4 m_ulawulinked []) : FnOk P w K mg base CX0 4 f fd ["patterns", "one", "other"] (spD K 3 m_ulawualike) :=
  fnd (k := 3) (n := 5) F sc_ulawualike rfl fun cdv A outer s H E hr =>
    (pss_dcons (ps_dif ((pw_dor (pt_ned hr.units (pd_get (pd_get (pd_var (pv 1)) pd_int) pd_int) (pd_get (pd_get (pd_var (pv 2)) pd_int) pd_int)) (pw_dor1 (pt_ned hr.units (pd_get (pd_get (pd_var (pv 1)) pd_int) pd_int) (pd_get (pd_get (pd_var (pv 2)) pd_int) pd_int))))).pt (pss_done (ps_dret pd_bl)) pss_dnil)
    (pss_dcons (ps_dset (i := 3) sc_ulawualike.nd rfl (.inl rfl) (pd_add (pd_callTy (Dw.CallR.or cr_list (cr_listT rfl)) snd_listG z_list rfl (pa_dcons (pd_get (pd_get (pd_var (pv 1)) pd_int) pd_int) pa_dnil)) (pd_callTy (Dw.CallR.or cr_list (cr_listT rfl)) snd_listG z_list rfl (pa_dcons (pd_get (pd_get (pd_var (pv 1)) pd_int) pd_int) pa_dnil))))
    (pss_dcons (ps_dset (i := 4) sc_ulawualike.nd rfl (.inl rfl) (pd_add (pd_callTy (Dw.CallR.or cr_list (cr_listT rfl)) snd_listG z_list rfl (pa_dcons (pd_get (pd_get (pd_var (pv 2)) pd_int) pd_int) pa_dnil)) (pd_callTy (Dw.CallR.or cr_list (cr_listT rfl)) snd_listG z_list rfl (pa_dcons (pd_get (pd_get (pd_var (pv 2)) pd_int) pd_int) pa_dnil))))
    (pss_dcons (ps_dset (i := 5) sc_ulawualike.nd rfl (.inl rfl) (pd_callB cr_len snd_len z_len rfl (pa_dcons (pd_get (pd_get (pd_var (pv 1)) pd_int) pd_int) pa_dnil)))
    (pss_dcons (ps_dfor PassesOwn.never rfl (pi_drange1 z_range (pa_dcons (pd_callB cr_len snd_len z_len rfl (pa_dcons (pd_var (pv 3)) pa_dnil)) pa_dnil)) (pg_dnm sc_ulawualike.nd rfl (.inl rfl)) (pss_dcons (ps_dif (pt_dnot (pt_d (pd_callN c_ulawusameumark hr (by decide) (pa_dcons (pd_var (pv 0)) (pa_dcons (pd_get (pd_var (pv 3)) (pd_var (pv 6))) (pa_dcons (pd_get (pd_var (pv 4)) (pd_var (pv 6))) pa_dnil)))))) (pss_done (ps_dret pd_bl)) pss_dnil)
    (pss_done (ps_dfor PassesOwn.never rfl (pi_drange1 z_range (pa_dcons (pd_var (pv 6)) pa_dnil)) (pg_dnm sc_ulawualike.nd rfl (.inl rfl)) (pss_done (ps_dif (pt_ned hr.units (pd_callN c_ulawulinked hr (by decide) (pa_dcons (pd_var (pv 3)) (pa_dcons (pd_var (pv 6)) (pa_dcons (pd_var (pv 7)) (pa_dcons (pd_var (pv 5)) pa_dnil))))) (pd_callN c_ulawulinked hr (by decide) (pa_dcons (pd_var (pv 4)) (pa_dcons (pd_var (pv 6)) (pa_dcons (pd_var (pv 7)) (pa_dcons (pd_var (pv 5)) pa_dnil)))))) (pss_done (ps_dret pd_bl)) pss_dnil))))))
    (pss_done (ps_dret pd_bl)))))))
abbrev s_ulawusome : Stmt := topS 24
theorem sc_ulawusome : FnScope ["script", "k", "choice"] ["script", "k"] (defScope s_ulawusome) := ⟨rfl, rfl, rfl, by decide +kernel, rfl, by decide +kernel, by decide +kernel⟩
def b_ulawusome : SS :=
    (seqS (asgS 2 (callD m_ulawudraw [] (consA (varE 0) (consA (varE 1) (consA (constE (.int 9)) nilA)))))
    (seqS (iteS (two (op2 eqD) (varE 2) (constE (.int 0))) (retS (constE .non)) skipS)
    (seqS (iteS (orE (two (op2 eqD) (varE 2) (constE (.int 1))) (two (op2 eqD) (varE 2) (constE (.int 2)))) (retS (tupE (consA (constE (.str [111, 119, 110])) (consA (two (op2 getD) (lstE (consA (constE (.int 0)) (consA (constE (.int 1)) (consA (constE (.int 5)) (consA (constE (.int 10)) nilA))))) (callD m_ulawudraw [] (consA (varE 0) (consA (two (op2 addD) (varE 1) (constE (.int 1))) (consA (constE (.int 4)) nilA))))) nilA)))) skipS)
    (seqS (iteS (two (op2 ltG) (varE 2) (constE (.int 6))) (retS (two (op2 getD) (lstE (consA (constE (.int 0)) (consA (constE (.int 1)) (consA (constE (.int 2)) (consA (constE (.int 7)) (consA (constE (.int 12)) (consA (oneE negD (constE (.int 1))) (consA (oneE negD (constE (.int 2))) (consA (oneE negD (constE (.int 11))) nilA))))))))) (callD m_ulawudraw [] (consA (varE 0) (consA (two (op2 addD) (varE 1) (constE (.int 1))) (consA (constE (.int 8)) nilA)))))) skipS)
    (retS (two (op2 getD) (lstE (consA (constE (.str [])) (consA (constE (.str [97])) (consA (constE (.str [98])) (consA (constE (.str [97, 97])) (consA (constE (.str [97, 98])) (consA (constE (.str [98, 98])) (consA (constE (.str [97, 98, 99])) nilA)))))))) (callD m_ulawudraw [] (consA (varE 0) (consA (two (op2 addD) (varE 1) (constE (.int 1))) (consA (constE (.int 7)) nilA))))))))))
def m_ulawusome : List SV → Option FR := defM 2 1 b_ulawusome
theorem ok_ulawusome {P : Program} {w : World} {K : PySem.W.Frag} {mg : Str → Option Value} {base : Heap} {f : Addr} {fd : FuncData} (F : Fun K "_law_some" "_law_some" s_ulawusome f fd)  (c_ulawudraw : Def P w K mg base 1 "_law_draw" 3 m_ulawudraw []) : FnOk P w K mg base CX0 2 f fd ["script", "k"] (spD K 2 m_ulawusome) :=
  fnd (k := 1) (n := 1) F sc_ulawusome rfl fun cdv A outer s H E hr =>
    (pss_dcons (ps_dset (i := 2) sc_ulawusome.nd rfl (.inl rfl) (pd_callN c_ulawudraw hr (by decide) (pa_dcons (pd_var (pv 0)) (pa_dcons (pd_var (pv 1)) (pa_dcons pd_int pa_dnil)))))
    (pss_dcons (ps_dif (pt_eqd hr.units (pd_var (pv 2)) pd_int) (pss_done (ps_dret pd_non)) pss_dnil)
    (pss_dcons (ps_dif ((pw_dor (pt_eqd hr.units (pd_var (pv 2)) pd_int) (pw_dor1 (pt_eqd hr.units (pd_var (pv 2)) pd_int)))).pt (pss_done (ps_dret (pd_tup (pa_dcons (pd_str [111, 119, 110] (by rfl)) (pa_dcons (pd_get (pd_lst (pa_dcons pd_int (pa_dcons pd_int (pa_dcons pd_int (pa_dcons pd_int pa_dnil))))) (pd_callN c_ulawudraw hr (by decide) (pa_dcons (pd_var (pv 0)) (pa_dcons (pd_add (pd_var (pv 1)) pd_int) (pa_dcons pd_int pa_dnil))))) pa_dnil))))) pss_dnil)
    (pss_dcons (ps_dif (pt_ltg hr.units (pd_var (pv 2)) pd_int) (pss_done (ps_dret (pd_get (pd_lst (pa_dcons pd_int (pa_dcons pd_int (pa_dcons pd_int (pa_dcons pd_int (pa_dcons pd_int (pa_dcons (pd_neg pd_int) (pa_dcons (pd_neg pd_int) (pa_dcons (pd_neg pd_int) pa_dnil))))))))) (pd_callN c_ulawudraw hr (by decide) (pa_dcons (pd_var (pv 0)) (pa_dcons (pd_add (pd_var (pv 1)) pd_int) (pa_dcons pd_int pa_dnil))))))) pss_dnil)
    (pss_done (ps_dret (pd_get (pd_lst (pa_dcons (pd_str [] (by rfl)) (pa_dcons (pd_str [97] (by rfl)) (pa_dcons (pd_str [98] (by rfl)) (pa_dcons (pd_str [97, 97] (by rfl)) (pa_dcons (pd_str [97, 98] (by rfl)) (pa_dcons (pd_str [98, 98] (by rfl)) (pa_dcons (pd_str [97, 98, 99] (by rfl)) pa_dnil)))))))) (pd_callN c_ulawudraw hr (by decide) (pa_dcons (pd_var (pv 0)) (pa_dcons (pd_add (pd_var (pv 1)) pd_int) (pa_dcons pd_int pa_dnil)))))))))))
abbrev s_ulawupair : Stmt := topS 25
theorem sc_ulawupair : FnScope ["script", "k", "left", "right", "first", "second", "j"] ["script", "k", "left", "right"] (defScope s_ulawupair) := ⟨rfl, rfl, rfl, by decide +kernel, rfl, by decide +kernel, by decide +kernel⟩
def e_ulawupair_1 : SE :=
    (callD m_ulawusome [] (consA (varE 0) (consA (two (op2 addD) (two (op2 addD) (varE 1) (constE (.int 2))) (two (op2 mulD) (constE (.int 2)) (varE 6))) nilA)))
def e_ulawupair_2 : SE :=
    (callD m_ulawusome [] (consA (varE 0) (consA (two (op2 addD) (two (op2 addD) (varE 1) (constE (.int 8))) (two (op2 mulD) (constE (.int 2)) (varE 6))) nilA)))
def b_ulawupair : SS :=
    (seqS (asgS 4 (compE [6] (argsI rng1 (consA (varE 2) nilA)) (.nm 6) none e_ulawupair_1))
    (seqS (asgS 5 (compE [6] (argsI rng1 (consA (varE 3) nilA)) (.nm 6) none e_ulawupair_2))
    (retS (tupE (consA (tupE (consA (two (op2 getD) (lstE (consA (constE (.str [97])) (consA (constE (.str [98])) nilA))) (callD m_ulawudraw [] (consA (varE 0) (consA (varE 1) (consA (constE (.int 2)) nilA))))) (consA (varE 4) nilA))) (consA (tupE (consA (two (op2 getD) (lstE (consA (constE (.str [97])) (consA (constE (.str [98])) nilA))) (callD m_ulawudraw [] (consA (varE 0) (consA (two (op2 addD) (varE 1) (constE (.int 1))) (consA (constE (.int 2)) nilA))))) (consA (varE 5) nilA))) nilA))))))
def m_ulawupair : List SV → Option FR := defM 4 3 b_ulawupair
theorem ok_ulawupair {P : Program} {w : World} {K : PySem.W.Frag} {mg : Str → Option Value} {base : Heap} {f : Addr} {fd : FuncData} (F : Fun K "_law_pair" "_law_pair" s_ulawupair f fd) (z_range : mg "range" = none) (c_ulawusome : Def P w K mg base 2 "_law_some" 2 m_ulawusome []) (c_ulawudraw : Def P w K mg base 1 "_law_draw" 3 m_ulawudraw []) : FnOk P w K mg base CX0 3 f fd ["script", "k", "left", "right"] (spD K 4 m_ulawupair) :=
  fnd (k := 2) (n := 3) F sc_ulawupair rfl fun cdv A outer s H E hr =>
    (pss_dcons (ps_dsetComp (by rfl) sc_ulawupair.nd rfl rfl (sw_true rfl rfl rfl (by rfl)) (own := [("j", 6)]) (blk_of (N := ["script", "k", "left", "right", "first", "second", "j"]) (sc := defScope s_ulawupair) (by decide +kernel)) (by rfl) (pi_drange1 z_range (pa_dcons (pd_var (pv 2)) pa_dnil)) (fun s H C cl fp => (pg_dnm sc_ulawupair.nd rfl (.inl rfl))) (fun s H C cl fp => pts_dnil) (fun s H C cl fp => (pd_callN c_ulawusome hr (by decide) (pa_dcons (pd_var (pv 0)) (pa_dcons (pd_add (pd_add (pd_var (pv 1)) pd_int) (pd_mul pd_int (pd_var (pv 6)))) pa_dnil)))))
    (pss_dcons (ps_dsetComp (by rfl) sc_ulawupair.nd rfl rfl (sw_true rfl rfl rfl (by rfl)) (own := [("j", 6)]) (blk_of (N := ["script", "k", "left", "right", "first", "second", "j"]) (sc := defScope s_ulawupair) (by decide +kernel)) (by rfl) (pi_drange1 z_range (pa_dcons (pd_var (pv 3)) pa_dnil)) (fun s H C cl fp => (pg_dnm sc_ulawupair.nd rfl (.inl rfl))) (fun s H C cl fp => pts_dnil) (fun s H C cl fp => (pd_callN c_ulawusome hr (by decide) (pa_dcons (pd_var (pv 0)) (pa_dcons (pd_add (pd_add (pd_var (pv 1)) pd_int) (pd_mul pd_int (pd_var (pv 6)))) pa_dnil)))))
    (pss_done (ps_dret (pd_tup (pa_dcons (pd_tup (pa_dcons (pd_get (pd_lst (pa_dcons (pd_str [97] (by rfl)) (pa_dcons (pd_str [98] (by rfl)) pa_dnil))) (pd_callN c_ulawudraw hr (by decide) (pa_dcons (pd_var (pv 0)) (pa_dcons (pd_var (pv 1)) (pa_dcons pd_int pa_dnil))))) (pa_dcons (pd_var (pv 4)) pa_dnil))) (pa_dcons (pd_tup (pa_dcons (pd_get (pd_lst (pa_dcons (pd_str [97] (by rfl)) (pa_dcons (pd_str [98] (by rfl)) pa_dnil))) (pd_callN c_ulawudraw hr (by decide) (pa_dcons (pd_var (pv 0)) (pa_dcons (pd_add (pd_var (pv 1)) pd_int) (pa_dcons pd_int pa_dnil))))) (pa_dcons (pd_var (pv 5)) pa_dnil))) pa_dnil)))))))
abbrev s_ulawucopy : Stmt := topS 26
theorem sc_ulawucopy : FnScope ["pair"] ["pair"] (defScope s_ulawucopy) := ⟨rfl, rfl, rfl, by decide +kernel, rfl, by decide +kernel, by decide +kernel⟩
def b_ulawucopy : SS :=
    (retS (tupE (consA (tupE (consA (two (op2 getD) (two (op2 getD) (varE 0) (constE (.int 0))) (constE (.int 0))) (consA (callE listG (consA (two (op2 getD) (two (op2 getD) (varE 0) (constE (.int 0))) (constE (.int 1))) nilA)) nilA))) (consA (tupE (consA (two (op2 getD) (two (op2 getD) (varE 0) (constE (.int 1))) (constE (.int 0))) (consA (callE listG (consA (two (op2 getD) (two (op2 getD) (varE 0) (constE (.int 1))) (constE (.int 1))) nilA)) nilA))) nilA))))
def m_ulawucopy : List SV → Option FR := defM 1 0 b_ulawucopy
theorem ok_ulawucopy {P : Program} {w : World} {K : PySem.W.Frag} {mg : Str → Option Value} {base : Heap} {f : Addr} {fd : FuncData} (F : Fun K "_law_copy" "_law_copy" s_ulawucopy f fd) (z_list : mg "list" = none)  : FnOk P w K mg base CX0 1 f fd ["pair"] (spD K 1 m_ulawucopy) :=
  fnd (k := 0) (n := 0) F sc_ulawucopy rfl fun cdv A outer s H E hr =>
    (pss_done (ps_dret (pd_tup (pa_dcons (pd_tup (pa_dcons (pd_get (pd_get (pd_var (pv 0)) pd_int) pd_int) (pa_dcons (pd_callTy (Dw.CallR.or cr_list (cr_listT rfl)) snd_listG z_list rfl (pa_dcons (pd_get (pd_get (pd_var (pv 0)) pd_int) pd_int) pa_dnil)) pa_dnil))) (pa_dcons (pd_tup (pa_dcons (pd_get (pd_get (pd_var (pv 0)) pd_int) pd_int) (pa_dcons (pd_callTy (Dw.CallR.or cr_list (cr_listT rfl)) snd_listG z_list rfl (pa_dcons (pd_get (pd_get (pd_var (pv 0)) pd_int) pd_int) pa_dnil)) pa_dnil))) pa_dnil)))))
abbrev s_ulawumenu : Stmt := topS 27
theorem sc_ulawumenu : FnScope ["script", "k", "menu"] ["script", "k"] (defScope s_ulawumenu) := ⟨rfl, rfl, rfl, by decide +kernel, rfl, by decide +kernel, by decide +kernel⟩
def b_ulawumenu : SS :=
    (seqS (asgS 2 (lstE (consA (constE (.str [97])) (consA (constE (.str [])) (consA (constE (.str [97, 42])) (consA (constE (.str [63, 98, 42])) nilA))))))
    (retS (sliceE (varE 2) none (some (callD m_ulawudraw [] (consA (varE 0) (consA (varE 1) (consA (constE (.int 5)) nilA))))))))
def m_ulawumenu : List SV → Option FR := defM 2 1 b_ulawumenu
theorem ok_ulawumenu {P : Program} {w : World} {K : PySem.W.Frag} {mg : Str → Option Value} {base : Heap} {f : Addr} {fd : FuncData} (F : Fun K "_law_menu" "_law_menu" s_ulawumenu f fd)  (c_ulawudraw : Def P w K mg base 1 "_law_draw" 3 m_ulawudraw []) : FnOk P w K mg base CX0 2 f fd ["script", "k"] (spD K 2 m_ulawumenu) :=
  fnd (k := 1) (n := 1) F sc_ulawumenu rfl fun cdv A outer s H E hr =>
    (pss_dcons (ps_dset (i := 2) sc_ulawumenu.nd rfl (.inl rfl) (pd_lst (pa_dcons (pd_str [97] (by rfl)) (pa_dcons (pd_str [] (by rfl)) (pa_dcons (pd_str [97, 42] (by rfl)) (pa_dcons (pd_str [63, 98, 42] (by rfl)) pa_dnil))))))
    (pss_done (ps_dret (pd_slice (pd_var (pv 2)) po_dnone (po_dsome (pd_callN c_ulawudraw hr (by decide) (pa_dcons (pd_var (pv 0)) (pa_dcons (pd_var (pv 1)) (pa_dcons pd_int pa_dnil)))))))))
abbrev s_ulawuexchanged : Stmt := topS 28
theorem sc_ulawuexchanged : FnScope ["held", "shift"] ["held", "shift"] (defScope s_ulawuexchanged) := ⟨rfl, rfl, rfl, by decide +kernel, rfl, by decide +kernel, by decide +kernel⟩
def b_ulawuexchanged : SS :=
    (seqS (iteS (orE (two (op2 isD) (varE 0) (constE .non)) (orE (isiE "str" (varE 0)) (two (op2 eqD) (varE 0) (constE (.int 0))))) (retS (varE 0)) skipS)
    (seqS (iteS (isiE "tuple" (varE 0)) (retS (tupE (consA (constE (.str [111, 119, 110])) (consA (two (op2 addD) (two (op2 subD) (constE (.int 11)) (two (op2 getD) (varE 0) (constE (.int 1)))) (varE 1)) nilA)))) skipS)
    (retS (two (op2 subD) (two (op2 mulD) (oneE negD (constE (.int 5))) (varE 0)) (varE 1)))))
def m_ulawuexchanged : List SV → Option FR := defM 2 0 b_ulawuexchanged
theorem ok_ulawuexchanged {P : Program} {w : World} {K : PySem.W.Frag} {mg : Str → Option Value} {base : Heap} {f : Addr} {fd : FuncData} (F : Fun K "_law_exchanged" "_law_exchanged" s_ulawuexchanged f fd) (z_isinstance : mg "isinstance" = none) (z_str : mg "str" = none) (z_tuple : mg "tuple" = none)  : FnOk P w K mg base CX0 1 f fd ["held", "shift"] (spD K 2 m_ulawuexchanged) :=
  fnd (k := 0) (n := 0) F sc_ulawuexchanged rfl fun cdv A outer s H E hr =>
    (pss_dcons (ps_dif ((pw_dor (pt_isd (pd_var (pv 0)) pd_non) (pw_dor (pt_d (pd_isi (n := "str") (by decide) z_isinstance z_str rfl (pd_var (pv 0)))) (pw_dor1 (pt_eqd hr.units (pd_var (pv 0)) pd_int))))).pt (pss_done (ps_dret (pd_var (pv 0)))) pss_dnil)
    (pss_dcons (ps_dif (pt_d (pd_isi (n := "tuple") (by decide) z_isinstance z_tuple rfl (pd_var (pv 0)))) (pss_done (ps_dret (pd_tup (pa_dcons (pd_str [111, 119, 110] (by rfl)) (pa_dcons (pd_add (pd_sub pd_int (pd_get (pd_var (pv 0)) pd_int)) (pd_var (pv 1))) pa_dnil))))) pss_dnil)
    (pss_done (ps_dret (pd_sub (pd_mul (pd_neg pd_int) (pd_var (pv 0))) (pd_var (pv 1)))))))
abbrev s_ulawutwin : Stmt := topS 29
theorem sc_ulawutwin : FnScope ["pair", "shift", "first", "second", "held"] ["pair", "shift"] (defScope s_ulawutwin) := ⟨rfl, rfl, rfl, by decide +kernel, rfl, by decide +kernel, by decide +kernel⟩
def e_ulawutwin_1 : SE :=
    (callD m_ulawuexchanged [] (consA (varE 4) (consA (varE 1) nilA)))
def l_ulawutwin_2 : SS :=
    (iteS (isiE "tuple" (varE 4)) (exprS (mutE appU (varE 3) (consA (tupE (consA (constE (.str [111, 119, 110])) (consA (two (op2 addD) (two (op2 getD) (varE 4) (constE (.int 1))) (two (op2 mulD) (constE (.int 2)) (varE 1))) nilA))) nilA))) (exprS (mutE appU (varE 3) (consA (callD m_ulawuexchanged [] (consA (varE 4) (consA (varE 1) nilA))) nilA))))
def b_ulawutwin : SS :=
    (seqS (asgS 2 (compE [4] (srcE (two (op2 getD) (two (op2 getD) (varE 0) (constE (.int 0))) (constE (.int 1)))) (.nm 4) none e_ulawutwin_1))
    (seqS (asgS 3 (lstE nilA))
    (seqS (forS (srcE (two (op2 getD) (two (op2 getD) (varE 0) (constE (.int 1))) (constE (.int 1)))) (.nm 4) l_ulawutwin_2)
    (retTT (two (op2 getD) (two (op2 getD) (varE 0) (constE (.int 0))) (constE (.int 0))) 2 (two (op2 getD) (two (op2 getD) (varE 0) (constE (.int 1))) (constE (.int 0))) 3))))
def m_ulawutwin : List SV → Option FR := defM 2 3 b_ulawutwin
theorem ok_ulawutwin {P : Program} {w : World} {K : PySem.W.Frag} {mg : Str → Option Value} {base : Heap} {f : Addr} {fd : FuncData} (F : Fun K "_law_twin" "_law_twin" s_ulawutwin f fd) (z_isinstance : mg "isinstance" = none) (z_tuple : mg "tuple" = none) (c_ulawuexchanged : Def P w K mg base 1 "_law_exchanged" 2 m_ulawuexchanged []) : FnOk P w K mg base CX0 2 f fd ["pair", "shift"] (spQ2 K 2 m_ulawutwin) :=
  fnd_q2 (k := 1) (n := 3) F sc_ulawutwin rfl (by repeat (first | exact noNx_retTT | apply noNx_seq)) fun cdv A outer s H E hr =>
    (pss_q2cons rtN_asg (ps_dsetComp (by rfl) sc_ulawutwin.nd rfl rfl (sw_true rfl rfl rfl (by rfl)) (own := [("held", 4)]) (blk_of (N := ["pair", "shift", "first", "second", "held"]) (sc := defScope s_ulawutwin) (by decide +kernel)) (by rfl) (pi_dsrc (pd_get (pd_get (pd_var (pv 0)) pd_int) pd_int)) (fun s H C cl fp => (pg_dnm sc_ulawutwin.nd rfl (.inl rfl))) (fun s H C cl fp => pts_dnil) (fun s H C cl fp => (pd_callN c_ulawuexchanged hr (by decide) (pa_dcons (pd_var (pv 4)) (pa_dcons (pd_var (pv 1)) pa_dnil)))))
    (pss_q2cons rtN_asg (ps_dset (i := 3) sc_ulawutwin.nd rfl (.inl rfl) (pd_lst pa_dnil))
    (pss_q2cons (rtN_for (rtN_ite rtN_expr rtN_expr)) (ps_dfor PassesOwn.never rfl (pi_dsrc (pd_get (pd_get (pd_var (pv 0)) pd_int) pd_int)) (pg_dnm sc_ulawutwin.nd rfl (.inl rfl)) (pss_done (ps_dif (pt_d (pd_isi (n := "tuple") (by decide) z_isinstance z_tuple rfl (pd_var (pv 4)))) (pss_done (ps_dexpr (pd_append (pd_var (pv 3)) (pa_dcons (pd_tup (pa_dcons (pd_str [111, 119, 110] (by rfl)) (pa_dcons (pd_add (pd_get (pd_var (pv 4)) pd_int) (pd_mul pd_int (pd_var (pv 1)))) pa_dnil))) pa_dnil)))) (pss_done (ps_dexpr (pd_append (pd_var (pv 3)) (pa_dcons (pd_callN c_ulawuexchanged hr (by decide) (pa_dcons (pd_var (pv 4)) (pa_dcons (pd_var (pv 1)) pa_dnil))) pa_dnil)))))))
    (pss_q2ret (pd_get (pd_get (pd_var (pv 0)) pd_int) pd_int) (pv 2) (pd_get (pd_get (pd_var (pv 0)) pd_int) pd_int) (pv 3)))))
abbrev s_ulawuother : Stmt := topS 30
theorem sc_ulawuother : FnScope ["script", "one", "left", "right", "choice", "other", "row"] ["script", "one", "left", "right"] (defScope s_ulawuother) := ⟨rfl, rfl, rfl, by decide +kernel, rfl, by decide +kernel, by decide +kernel⟩
def b_ulawuother : SS :=
    (seqS (asgS 4 (callD m_ulawudraw [] (consA (varE 0) (consA (constE (.int 60)) (consA (constE (.int 4)) nilA)))))
    (seqS (iteS (two (op2 eqD) (varE 4) (constE (.int 0))) (retS (callD m_ulawupair [] (consA (varE 0) (consA (constE (.int 20)) (consA (varE 2) (consA (varE 3) nilA)))))) skipS)
    (startM 5 m_ulawutwin (consA (varE 1) (consA (callD m_ulawudraw [] (consA (varE 0) (consA (constE (.int 61)) (consA (constE (.int 5)) nilA)))) nilA)) (fun _ => (twoM 5 (callD m_ulawudraw [] (consA (varE 0) (consA (constE (.int 62)) (consA (constE (.int 2)) nilA)))) [0, 4] 6
    (iteS (andE (two (op2 eqD) (varE 4) (constE (.int 1))) (two (op2 gtD) (callE lenD (consA (varE 6) nilA)) (constE (.int 0)))) (setL 6 (callD m_ulawudraw [] (consA (varE 0) (consA (constE (.int 63)) (consA (callE lenD (consA (varE 6) nilA)) nilA)))) (callD m_ulawusome [] (consA (varE 0) (consA (constE (.int 64)) nilA)))) skipS))))))
def m_ulawuother : List SV → Option FR := defM 4 3 b_ulawuother
theorem ok_ulawuother {P : Program} {w : World} {K : PySem.W.Frag} {mg : Str → Option Value} {base : Heap} {f : Addr} {fd : FuncData} (F : Fun K "_law_other" "_law_other" s_ulawuother f fd) (z_len : mg "len" = none) (c_ulawudraw : Def P w K mg base 1 "_law_draw" 3 m_ulawudraw []) (c_ulawupair : Def P w K mg base 3 "_law_pair" 4 m_ulawupair []) (c_ulawutwin : DefQ2 P w K mg base 2 "_law_twin" 2 m_ulawutwin) (c_ulawusome : Def P w K mg base 2 "_law_some" 2 m_ulawusome []) : FnOk P w K mg base CX0 4 f fd ["script", "one", "left", "right"] (spD K 4 m_ulawuother) :=
  fnd (k := 3) (n := 3) F sc_ulawuother rfl fun cdv A outer s H E hr =>
    (pss_dcons (ps_dset (i := 4) sc_ulawuother.nd rfl (.inl rfl) (pd_callN c_ulawudraw hr (by decide) (pa_dcons (pd_var (pv 0)) (pa_dcons pd_int (pa_dcons pd_int pa_dnil)))))
    (pss_dcons (ps_dif (pt_eqd hr.units (pd_var (pv 4)) pd_int) (pss_done (ps_dret (pd_callN c_ulawupair hr (by decide) (pa_dcons (pd_var (pv 0)) (pa_dcons pd_int (pa_dcons (pd_var (pv 2)) (pa_dcons (pd_var (pv 3)) pa_dnil))))))) pss_dnil)
    (pss_start2 (i := 5) (Kp := [0, 4]) c_ulawutwin hr (by decide) sc_ulawuother.nd rfl (.inl rfl) (pa_dcons (pd_var (pv 1)) (pa_dcons (pd_callN c_ulawudraw hr (by decide) (pa_dcons (pd_var (pv 0)) (pa_dcons pd_int (pa_dcons pd_int pa_dnil)))) pa_dnil))
    (pss_two (i := 5) (row := 6) sc_ulawuother.nd rfl (.inl rfl) (pv 5) (pd_callN c_ulawudraw hr (by decide) (pa_dcons (pd_var (pv 0)) (pa_dcons pd_int (pa_dcons pd_int pa_dnil)))) pe_int (pv 5)
    (psk_if ((pw_dand (pt_eqd hr.units (pd_var (pv 4)) pd_int) (pw_dand1 (pt_gtd (pd_callB cr_len snd_len z_len rfl (pa_dcons (pd_var (pv 6)) pa_dnil)) pd_int)))).pt (pss_one (psk_setL (pd_callN c_ulawusome hr (by decide) (pa_dcons (pd_var (pv 0)) (pa_dcons pd_int pa_dnil))) (pg_sub (pd_var (pv 6)) (pd_callN c_ulawudraw hr (by decide) (pa_dcons (pd_var (pv 0)) (pa_dcons pd_int (pa_dcons (pd_callB cr_len snd_len z_len rfl (pa_dcons (pd_var (pv 6)) pa_dnil)) pa_dnil)))) set_list))) psk_nil)))))
abbrev s_law : Stmt := topS 31
theorem sc_law : FnScope ["script", "patterns", "left", "right", "one", "other", "told", "beside", "due", "actual", "key", "table", "found"] ["script"] (defScope s_law) := ⟨rfl, rfl, rfl, by decide +kernel, rfl, by decide +kernel, by decide +kernel⟩
def b_law : SS :=
    (seqS (asgS 1 (callD m_ulawumenu [] (consA (varE 0) (consA (constE (.int 68)) nilA))))
    (seqS (asgS 2 (callD m_ulawudraw [] (consA (varE 0) (consA (constE (.int 69)) (consA (constE (.int 4)) nilA)))))
    (seqS (asgS 3 (callD m_ulawudraw [] (consA (varE 0) (consA (constE (.int 70)) (consA (constE (.int 4)) nilA)))))
    (seqS (asgS 4 (callD m_ulawupair [] (consA (varE 0) (consA (constE (.int 0)) (consA (varE 2) (consA (varE 3) nilA))))))
    (seqS (asgS 5 (callD m_ulawuother [] (consA (varE 0) (consA (varE 4) (consA (varE 2) (consA (varE 3) nilA))))))
    (seqS (asgS 6 (callD m_ulawucopy [] (consA (varE 4) nilA)))
    (seqS (asgS 7 (callD m_ulawucopy [] (consA (varE 5) nilA)))
    (seqS (asgS 8 (callD m_ulawualike [] (consA (varE 1) (consA (varE 4) (consA (varE 5) nilA)))))
    (seqS (asgS 9 (callD m_alike [] (consA (callE listG (consA (varE 1) nilA)) (consA (varE 6) (consA (varE 7) nilA)))))
    (seqS (asgS 10 (callD m_kind_of [] (consA (callE listG (consA (varE 1) nilA)) (consA (varE 6) nilA))))
    (seqS (iteS (orE (notE (isiE "tuple" (varE 10))) (orE (notE (isiE "bool" (varE 9))) (two (op2 neD) (varE 9) (varE 8)))) (retS (constE (.bl false))) skipS)
    (seqS (asgS 11 (dispU1 (varE 10) (constE (.int 1))))
    (seqS (asgS 12 (two (op2 inU) (callD m_kind_of [] (consA (callE listG (consA (varE 1) nilA)) (consA (varE 7) nilA))) (varE 11)))
    (retS (andE (two (op2 eqD) (varE 12) (varE 8)) (andE (two (op2 eqD) (varE 6) (varE 4)) (two (op2 eqD) (varE 7) (varE 5))))))))))))))))))
def m_law : List SV → Option FR := defM 1 12 b_law
theorem ok_law {P : Program} {w : World} {K : PySem.W.Frag} {mg : Str → Option Value} {base : Heap} {f : Addr} {fd : FuncData} (F : Fun K "law" "law" s_law f fd) (z_bool : mg "bool" = none) (z_isinstance : mg "isinstance" = none) (z_list : mg "list" = none) (z_tuple : mg "tuple" = none) (hW : w = Glo.w) (c_ulawumenu : Def P w K mg base 2 "_law_menu" 2 m_ulawumenu []) (c_ulawudraw : Def P w K mg base 1 "_law_draw" 3 m_ulawudraw []) (c_ulawupair : Def P w K mg base 3 "_law_pair" 4 m_ulawupair []) (c_ulawuother : Def P w K mg base 4 "_law_other" 4 m_ulawuother []) (c_ulawucopy : Def P w K mg base 1 "_law_copy" 1 m_ulawucopy []) (c_ulawualike : Def P w K mg base 4 "_law_alike" 3 m_ulawualike []) (c_alike : Def P w K mg base 6 "alike" 3 m_alike []) (c_kind_of : Def P w K mg base 5 "kind_of" 2 m_kind_of []) : FnOk P w K mg base CX0 7 f fd ["script"] (spD K 1 m_law) :=
  fnd (k := 6) (n := 12) F sc_law rfl fun cdv A outer s H E hr =>
    (pss_dcons (ps_dset (i := 1) sc_law.nd rfl (.inl rfl) (pd_callN c_ulawumenu hr (by decide) (pa_dcons (pd_var (pv 0)) (pa_dcons pd_int pa_dnil))))
    (pss_dcons (ps_dset (i := 2) sc_law.nd rfl (.inl rfl) (pd_callN c_ulawudraw hr (by decide) (pa_dcons (pd_var (pv 0)) (pa_dcons pd_int (pa_dcons pd_int pa_dnil)))))
    (pss_dcons (ps_dset (i := 3) sc_law.nd rfl (.inl rfl) (pd_callN c_ulawudraw hr (by decide) (pa_dcons (pd_var (pv 0)) (pa_dcons pd_int (pa_dcons pd_int pa_dnil)))))
    (pss_dcons (ps_dset (i := 4) sc_law.nd rfl (.inl rfl) (pd_callN c_ulawupair hr (by decide) (pa_dcons (pd_var (pv 0)) (pa_dcons pd_int (pa_dcons (pd_var (pv 2)) (pa_dcons (pd_var (pv 3)) pa_dnil))))))
    (pss_dcons (ps_dset (i := 5) sc_law.nd rfl (.inl rfl) (pd_callN c_ulawuother hr (by decide) (pa_dcons (pd_var (pv 0)) (pa_dcons (pd_var (pv 4)) (pa_dcons (pd_var (pv 2)) (pa_dcons (pd_var (pv 3)) pa_dnil))))))
    (pss_dcons (ps_dset (i := 6) sc_law.nd rfl (.inl rfl) (pd_callN c_ulawucopy hr (by decide) (pa_dcons (pd_var (pv 4)) pa_dnil)))
    (pss_dcons (ps_dset (i := 7) sc_law.nd rfl (.inl rfl) (pd_callN c_ulawucopy hr (by decide) (pa_dcons (pd_var (pv 5)) pa_dnil)))
    (pss_dcons (ps_dset (i := 8) sc_law.nd rfl (.inl rfl) (pd_callN c_ulawualike hr (by decide) (pa_dcons (pd_var (pv 1)) (pa_dcons (pd_var (pv 4)) (pa_dcons (pd_var (pv 5)) pa_dnil)))))
    (pss_dcons (ps_dset (i := 9) sc_law.nd rfl (.inl rfl) (pd_callN c_alike hr (by decide) (pa_dcons (pd_callTy (Dw.CallR.or cr_list (cr_listT rfl)) snd_listG z_list rfl (pa_dcons (pd_var (pv 1)) pa_dnil)) (pa_dcons (pd_var (pv 6)) (pa_dcons (pd_var (pv 7)) pa_dnil)))))
    (pss_dcons (ps_dset (i := 10) sc_law.nd rfl (.inl rfl) (pd_callN c_kind_of hr (by decide) (pa_dcons (pd_callTy (Dw.CallR.or cr_list (cr_listT rfl)) snd_listG z_list rfl (pa_dcons (pd_var (pv 1)) pa_dnil)) (pa_dcons (pd_var (pv 6)) pa_dnil))))
    (pss_dcons (ps_dif ((pw_dor (pt_dnot (pt_d (pd_isi (n := "tuple") (by decide) z_isinstance z_tuple rfl (pd_var (pv 10))))) (pw_dor (pt_dnot (pt_d (pd_isi (n := "bool") (by decide) z_isinstance z_bool rfl (pd_var (pv 9))))) (pw_dor1 (pt_ned hr.units (pd_var (pv 9)) (pd_var (pv 8))))))).pt (pss_done (ps_dret pd_bl)) pss_dnil)
    (pss_dcons (ps_dset (i := 11) sc_law.nd rfl (.inl rfl) (pd_dispU hW hr (pd_var (pv 10)) pd_int))
    (pss_dcons (ps_dset (i := 12) sc_law.nd rfl (.inl rfl) (pd_inU hW hr (pd_callN c_kind_of hr (by decide) (pa_dcons (pd_callTy (Dw.CallR.or cr_list (cr_listT rfl)) snd_listG z_list rfl (pa_dcons (pd_var (pv 1)) pa_dnil)) (pa_dcons (pd_var (pv 7)) pa_dnil))) (pd_var (pv 11))))
    (pss_done (ps_dret (Dw.pd_and (pd_eq hr.units (pd_var (pv 12)) (pd_var (pv 8))) (Dw.pd_and (pd_eq hr.units (pd_var (pv 6)) (pd_var (pv 4))) (Dw.pd_one (pd_eq hr.units (pd_var (pv 7)) (pd_var (pv 5)))))))))))))))))))))
end
end P_talkalike_k55_kinds_of_pairs
namespace P_talkalike_k55_kinds_of_pairs
noncomputable section
open PySem PySem.Spec PyProof.Rows L2 Dw
variable [GI : Glo] [TI : Tabs]
local macro_rules | `(tactic| fail "x0") => `(tactic| (first | with_reducible exact Dw.pk_d | with_reducible exact Dw.pk_own | ((with_reducible apply Dw.pk_cv); exact rfl) | with_reducible exact Dw.pk_ownI | with_reducible exact Dw.pk_ownK | ((with_reducible apply Dw.pk_cvI); exact rfl) | ((with_reducible apply Dw.pk_cvK); exact rfl)))
local macro_rules | `(tactic| fail "x1") => `(tactic| (first | with_reducible apply Dw.pks_cons | with_reducible exact Dw.pks_nil))
local macro_rules | `(tactic| fail "x2") => `(tactic| (first | with_reducible exact Dw.frz_d | with_reducible exact Dw.frz_own | with_reducible apply Dw.frz_cv | with_reducible exact Dw.frz_ownI | with_reducible exact Dw.frz_ownU | with_reducible exact Dw.frz_ownK | ((with_reducible apply Dw.frz_cvI); (exact rfl)) | ((with_reducible apply Dw.frz_cvU); (exact rfl)) | ((with_reducible apply Dw.frz_cvK); (exact rfl))))
local macro_rules | `(tactic| fail "x3") => `(tactic| (first | with_reducible apply Dw.frzs_cons | with_reducible exact Dw.frzs_nil | with_reducible apply Dw.frzs_map))
local macro_rules | `(tactic| fail "x4") => `(tactic| (first | with_reducible apply Dw.st_d | with_reducible apply Dw.st_own | with_reducible apply Dw.st_cv))
local macro_rules | `(tactic| fail "x5") => `(tactic| (first | with_reducible exact Dw.mapd_nn | with_reducible apply Dw.mapd_c | with_reducible apply Dw.mapd_d))
local macro_rules | `(tactic| fail "x6") => `(tactic| (first | with_reducible exact Dw.set_z | with_reducible exact Dw.setg_z | with_reducible apply Dw.set_s | with_reducible apply Dw.setg_s))
local macro_rules | `(tactic| fail "x7") => `(tactic| (first | with_reducible exact Dw.tru_bl | with_reducible exact Dw.tru_int | with_reducible exact Dw.tru_non | with_reducible exact Dw.tru_lst | with_reducible exact Dw.tru_tup | with_reducible exact Dw.tru_ownl | ((with_reducible apply Dw.tru_cv); exact rfl) | with_reducible apply Dw.tru_str))
local macro_rules | `(tactic| fail "x8") => `(tactic| (first | ((with_reducible apply Dw.fs_ok); exact rfl) | ((with_reducible apply Dw.fs_at); (exact rfl); (with_reducible assumption))))
local macro_rules | `(tactic| fail "x9") => `(tactic| (first | with_reducible exact Dw.eq_str | with_reducible exact Dw.eq_int | with_reducible exact Dw.eq_bl))
local macro_rules | `(tactic| fail "x10") => `(tactic| (first | with_reducible exact Dw.ne_str | with_reducible exact Dw.ne_int | with_reducible exact Dw.ne_bl))
local macro_rules | `(tactic| fail "x11") => `(tactic| (first | with_reducible exact Dw.it_lst | with_reducible exact Dw.it_tup | with_reducible exact Dw.it_str))
local macro_rules | `(tactic| fail "x12") => `(tactic| (first | with_reducible exact Dw.len_lst | with_reducible exact Dw.len_tup | with_reducible apply Dw.len_str))
local macro_rules | `(tactic| fail "x13") => `(tactic| (first | with_reducible exact Dw.add_int' | with_reducible apply Dw.add_lst | with_reducible apply Dw.add_str))
local macro_rules | `(tactic| fail "x14") => `(tactic| (first | with_reducible exact Dw.cut_tup | with_reducible exact Dw.cut_lst | with_reducible apply Dw.cut_str))
local macro_rules | `(tactic| fail "x15") => `(tactic| (first | with_reducible exact Dw.res_d | with_reducible exact Dw.res_own | ((with_reducible apply Dw.res_cv); exact rfl)))
local macro_rules | `(tactic| fail "x16") => `(tactic| (first | with_reducible exact Dw.ret_d | with_reducible exact Dw.ret_own))
local macro_rules | `(tactic| fail "x17") => `(tactic| (first | with_reducible exact Dw.bk_nil | with_reducible apply Dw.bk_d | with_reducible apply Dw.bk_own))
local macro_rules | `(tactic| fail "x18") => `(tactic| (first | with_reducible apply Dw.put_nm | with_reducible apply Dw.put_two | with_reducible apply Dw.put_tcons | with_reducible exact Dw.put_tnil))
local macro_rules | `(tactic| fail "x19") => `(tactic| (first | with_reducible exact Dw.lt_int' | with_reducible exact Dw.lt_str'))
local macro_rules | `(tactic| fail "x20") => `(tactic| (first | with_reducible exact Dw.lg_lst | with_reducible exact Dw.lg_tup | with_reducible apply Dw.lg_str))
local macro_rules | `(tactic| fail "x21") => `(tactic| (first | with_reducible exact Dw.lh_lst | with_reducible exact Dw.lh_tup | with_reducible exact Dw.lh_dct))
local macro_rules | `(tactic| fail "x22") => `(tactic| (first | with_reducible exact Dw.list_lst | with_reducible exact Dw.list_tup))
local macro_rules | `(tactic| fail "x23") => `(tactic| (first | with_reducible exact Dw.tup_lst | with_reducible exact Dw.tup_tup))
local macro_rules | `(tactic| fail "x24") => `(tactic| (first | with_reducible exact Dw.int_int | with_reducible exact Dw.int_bl))
local macro_rules | `(tactic| fail "x25") => `(tactic| (first | with_reducible exact Dw.ty_str | with_reducible exact Dw.ty_lst))
local macro_rules | `(tactic| fail "x26") => `(tactic| (first | with_reducible exact Dw.st_lst | with_reducible exact Dw.st_tup))
local macro_rules | `(tactic| fail "x27") => `(tactic| (first | ((with_reducible apply Dw.lkN_here); (decide +kernel)) | ((with_reducible apply Dw.lkN_next); (decide +kernel))))
local macro_rules | `(tactic| fail "x28") => `(tactic| (first | with_reducible exact Dw.pfn_nil | ((with_reducible apply Dw.pfn_ne); (decide +kernel))))
local macro_rules | `(tactic| fail "x29") => `(tactic| (first | with_reducible exact Dw.pfv_nil | ((with_reducible apply Dw.pfv_ne); (decide +kernel))))
local macro_rules | `(tactic| fail "x30") => `(tactic| (first | with_reducible exact Dw.rp_z | with_reducible apply Dw.rp_c | with_reducible apply Dw.rp_s))
local macro_rules | `(tactic| fail "x31") => `(tactic| (first | with_reducible exact Dw.look_place | with_reducible exact Dw.look_word))
local macro_rules | `(tactic| fail "x32") => `(tactic| (first | ((with_reducible show Dw.putFv _ _ _ _ = _); (fail "x29")) | ((with_reducible show (_ : List Dw.SV) ++ _ = _); (fail "x30")) | ((with_reducible show List.lookup _ _ = _); (fail "x31")) | ((with_reducible apply Dw.gE); exact rfl) | ((with_reducible show (_ : List _)[_]? = some _); exact rfl) | with_reducible exact Dw.lst_eq | ((with_reducible show Dw.okI _ = true); exact rfl) | ((with_reducible show Dw.Tg.isT _ = true); exact rfl)))
local macro_rules | `(tactic| fail "x33") => `(tactic| (first | ((with_reducible show Dw.ordC _ = _); with_reducible exact Dw.ord_str) | ((with_reducible show Dw.strG _ = _); with_reducible exact Dw.strG_s) | ((with_reducible show Dw.tyD _ = _); (fail "x25")) | ((with_reducible show Dw.starL _ = _); (fail "x26")) | ((with_reducible show Dw.insOf _ _ = _); with_reducible exact Dw.ins_of) | ((with_reducible show Dw.fldD _ _ = _); with_reducible apply Dw.fld_at) | ((with_reducible show Dw.lookN _ _ _ = _); (fail "x27")) | ((with_reducible show Dw.putFn _ _ = _); (fail "x28")) | (fail "x32")))
local macro_rules | `(tactic| fail "x34") => `(tactic| (first | ((with_reducible show Dw.gtD _ _ = _); with_reducible exact Dw.gt_int') | ((with_reducible show Dw.geD _ _ = _); with_reducible exact Dw.ge_int') | ((with_reducible show Dw.negD _ = _); with_reducible exact Dw.neg_int') | ((with_reducible show Dw.listG _ = _); (fail "x20")) | ((with_reducible show Dw.listH _ = _); (fail "x21")) | ((with_reducible show Dw.listC _ = _); (fail "x22")) | ((with_reducible show Dw.tupleC _ = _); (fail "x23")) | ((with_reducible show Dw.intC _ = _); (fail "x24")) | (fail "x33")))
local macro_rules | `(tactic| fail "x35") => `(tactic| (first | ((with_reducible show Dw.cutD _ _ _ = _); (fail "x14")) | ((with_reducible show Dw.resV _ _ = _); (fail "x15")) | ((with_reducible show Dw.retV _ = _); (fail "x16")) | ((with_reducible show Dw.backs _ _ = _); (fail "x17")) | ((with_reducible show Dw.putT _ _ _ = _); (fail "x18")) | ((with_reducible show Dw.inG _ _ = _); with_reducible apply Dw.inG_in) | ((with_reducible show Dw.ltG _ _ = _); (fail "x19")) | ((with_reducible show Dw.leD _ _ = _); with_reducible exact Dw.le_int') | (fail "x34")))
local macro_rules | `(tactic| fail "x36") => `(tactic| (first | ((with_reducible show Dw.eqD _ _ = _); (fail "x9")) | ((with_reducible show Dw.neD _ _ = _); (fail "x10")) | ((with_reducible show Dw.getD _ _ = _); with_reducible apply Dw.get_str) | ((with_reducible show Dw.itemsD _ = _); (fail "x11")) | ((with_reducible show Dw.lenD _ = _); (fail "x12")) | ((with_reducible show Dw.addD _ _ = _); (fail "x13")) | ((with_reducible show Dw.subD _ _ = _); with_reducible exact Dw.sub_int') | ((with_reducible show Dw.appU _ _ = _); with_reducible apply Dw.app_ok) | (fail "x35")))
local macro_rules | `(tactic| fail "x37") => `(tactic| (first | ((with_reducible show Dw.pks _ _ = _); (fail "x1")) | ((with_reducible show Dw.frz _ _ = _); (fail "x2")) | ((with_reducible show Dw.frzs _ _ = _); (fail "x3")) | ((with_reducible show Dw.storeR _ _ _ = _); (fail "x4")) | ((with_reducible show List.map _ _ = _); (fail "x5")) | ((with_reducible show List.set _ _ _ = _); (fail "x6")) | ((with_reducible show Dw.tru _ _ = _); (fail "x7")) | ((with_reducible show Dw.freeSlot _ = _); (fail "x8")) | (fail "x36")))
local macro_rules | `(tactic| fail "x38") => `(tactic| (first | with_reducible assumption | with_reducible exact Dw.EvR.h | with_reducible exact Dw.SetR.h | with_reducible exact Dw.MapR.h | with_reducible exact Dw.RepR.h | ((with_reducible show (_ : Nat) ≤ _); ((try simp only [List.length_cons, List.length_nil, List.length_map, List.length_append, List.length_range, List.length_singleton] at *) <;> omega)) | ((with_reducible show (_ : Nat) < _); ((try simp only [List.length_cons, List.length_nil, List.length_map, List.length_append, List.length_range, List.length_singleton] at *) <;> omega)) | ((with_reducible show Dw.pk _ _ = _); (fail "x0")) | (fail "x37")))
local macro_rules | `(tactic| fail "S") => `(tactic| (focus ((repeat' (fail "x38")); done)))
local macro_rules | `(tactic| fail "x40") => `(tactic| (first | ((with_reducible apply Dw.w_opT); (fail "S")) | ((with_reducible apply Dw.w_op); (fail "S"); (fail "S"); (fail "S"))))
local macro_rules | `(tactic| fail "x41") => `(tactic| (first | ((with_reducible apply Dw.w_op1T); (fail "S")) | ((with_reducible apply Dw.w_op1); (fail "S"); (fail "S")) | ((with_reducible apply Dw.w_isi1); (fail "S"); (fail "S")) | ((with_reducible apply Dw.w_met1); (fail "S"); (fail "S")) | ((with_reducible apply Dw.w_met2); (fail "S"); (fail "S"); (fail "S")) | ((with_reducible apply Dw.w_sl1); (fail "S"); (fail "S")) | ((with_reducible apply Dw.w_chain1); (fail "S"); (fail "S"); (fail "S"))))
local macro_rules | `(tactic| fail "x42") => `(tactic| (first | ((with_reducible apply Dw.w_opET); (fail "S")) | ((with_reducible apply Dw.w_opE); (fail "S"); (fail "S"))))
local macro_rules | `(tactic| fail "x43") => `(tactic| (first | ((with_reducible apply Dw.w_callD1); (fail "S"); (fail "S")) | ((with_reducible apply Dw.w_tup1); (fail "S"); (fail "S")) | ((with_reducible apply Dw.w_lst1); (fail "S"); (fail "S")) | ((with_reducible apply Dw.w_mut2); (fail "S"); (fail "S"); (fail "S"); (fail "S")) | ((with_reducible apply Dw.w_new1); (fail "S"); (fail "S")) | ((with_reducible apply Dw.w_meth2); (fail "S"); (fail "S"))))
local macro_rules | `(tactic| fail "x44") => `(tactic| (first | ((with_reducible apply Dw.w_prop1); (fail "S"); (fail "S")) | ((with_reducible apply Dw.w_meth1); (fail "S"); (fail "S"))))
local macro_rules | `(tactic| fail "x45") => `(tactic| (first | with_reducible apply Dw.w_retN | with_reducible apply Dw.w_brk | with_reducible apply Dw.w_cnt | with_reducible apply Dw.w_raise | with_reducible apply Dw.w_raiseN | with_reducible apply Dw.w_setL | with_reducible apply Dw.w_setK | with_reducible apply Dw.w_setF))
local macro_rules | `(tactic| fail "x46") => `(tactic| (first | with_reducible apply Dw.w_seq | with_reducible apply Dw.w_asg | with_reducible apply Dw.w_ret | with_reducible apply Dw.w_ite | with_reducible apply Dw.w_expr | with_reducible apply Dw.w_for | with_reducible apply Dw.w_skip | with_reducible apply Dw.w_asgT | (fail "x45")))
local macro_rules | `(tactic| fail "x47") => `(tactic| (first | ((with_reducible apply Dw.w_not1); (fail "S")) | ((with_reducible apply Dw.w_lenSet1); (fail "S"); (fail "S"))))
local macro_rules | `(tactic| fail "x48") => `(tactic| (first | ((with_reducible apply Dw.w_bet1); (fail "S")) | ((with_reducible apply Dw.w_rev1); (fail "S")) | ((with_reducible apply Dw.w_rv1); (fail "S"); (fail "S"))))
local macro_rules | `(tactic| fail "x49") => `(tactic| (first | with_reducible apply Dw.w_bo1 | with_reducible apply Dw.w_bo0 | ((with_reducible apply Dw.w_callM1); (fail "S"); (fail "S"); (fail "S"); (fail "S"); (fail "S"); (fail "S")) | ((with_reducible apply Dw.w_mut1); (fail "S")) | ((with_reducible apply Dw.w_ext1); (fail "S")) | ((with_reducible apply Dw.w_ext2); (fail "S"); (fail "S"); (fail "S")) | ((with_reducible apply Dw.w_pop1); (fail "S"); (fail "S"); (fail "S")) | ((with_reducible apply Dw.w_all1); (fail "S")) | (fail "x48")))
local macro_rules | `(tactic| fail "x50") => `(tactic| (first | with_reducible apply Dw.w_lenSet | with_reducible apply Dw.w_newK | with_reducible apply Dw.w_dispE | with_reducible apply Dw.w_cmpN | with_reducible apply Dw.w_rv))
local macro_rules | `(tactic| fail "x51") => `(tactic| (first | with_reducible apply Dw.w_all | with_reducible apply Dw.w_bet | with_reducible apply Dw.w_rev | with_reducible apply Dw.w_rg | with_reducible apply Dw.w_chain | with_reducible apply Dw.w_callD0 | ((with_reducible apply Dw.w_xf); (fail "S"); (fail "S")) | ((with_reducible apply Dw.w_isx); (fail "S")) | (fail "x50")))
local macro_rules | `(tactic| fail "x52") => `(tactic| (first | with_reducible apply Dw.w_mut | with_reducible apply Dw.w_callM | with_reducible apply Dw.w_ext | with_reducible apply Dw.w_comp | with_reducible apply Dw.w_prop | with_reducible apply Dw.w_meth | with_reducible apply Dw.w_new | with_reducible apply Dw.w_pop | (fail "x51")))
local macro_rules | `(tactic| fail "x53") => `(tactic| (first | with_reducible apply Dw.w_lst | with_reducible apply Dw.w_tup | with_reducible apply Dw.w_ife | with_reducible apply Dw.w_and | with_reducible apply Dw.w_or | with_reducible apply Dw.w_not | with_reducible apply Dw.w_met | with_reducible apply Dw.w_sl | (fail "x52")))
local macro_rules | `(tactic| fail "x54") => `(tactic| (first | ((with_reducible apply Dw.w_var); exact rfl) | with_reducible apply Dw.w_const | ((with_reducible apply Dw.w_varO); exact rfl) | with_reducible apply Dw.w_two | with_reducible apply Dw.w_callE | with_reducible apply Dw.w_callD | with_reducible apply Dw.w_isi | with_reducible apply Dw.w_one | (fail "x53")))
local macro_rules | `(tactic| fail "x55") => `(tactic| (first | with_reducible apply Dw.w_cons | with_reducible apply Dw.w_nil | with_reducible apply Dw.w_star))
local macro_rules | `(tactic| fail "x56") => `(tactic| (first | with_reducible apply Dw.w_src | with_reducible apply Dw.w_args | with_reducible apply Dw.w_enum | with_reducible apply Dw.w_zip))
local macro_rules | `(tactic| fail "x57") => `(tactic| (first | ((with_reducible apply Dw.w_src1T); (fail "S")) | ((with_reducible apply Dw.w_src1); (fail "S"); (fail "S")) | ((with_reducible apply Dw.w_args1); (fail "S"); (fail "S")) | ((with_reducible apply Dw.w_enum1); (fail "S")) | ((with_reducible apply Dw.w_enum2); (fail "S")) | ((with_reducible apply Dw.w_zip1); (fail "S"); (fail "S"); (fail "S"))))
local macro_rules | `(tactic| fail "x58") => `(tactic| (first | ((with_reducible apply Dw.w_out1); (fail "S")) | ((with_reducible apply Dw.w_out2); (fail "S"); (fail "S")) | ((with_reducible apply Dw.w_raise1); (fail "S"))))
local macro_rules | `(tactic| fail "x59") => `(tactic| (first | with_reducible exact Dw.w_n4 | ((with_reducible refine Dw.w_hT ?_ ?_); (with_reducible assumption)) | ((with_reducible refine Dw.w_hF ?_); (with_reducible assumption)) | ((with_reducible refine Dw.w_gT ?_ ?_); (with_reducible assumption)) | ((with_reducible refine Dw.w_gF ?_); (with_reducible assumption))))
local macro_rules | `(tactic| fail "x60") => `(tactic| (first | with_reducible refine Dw.w_ff ?_ | with_reducible exact Dw.w_tf | with_reducible exact Dw.w_ft | with_reducible refine Dw.w_n1 ?_ | with_reducible exact Dw.w_n2 | with_reducible refine Dw.w_n3 ?_ | (fail "x59")))
local macro_rules | `(tactic| fail "x61") => `(tactic| (first | ((with_reducible show Dw.wSet _ _ _ _); ((with_reducible apply Dw.w_set); (fail "S"))) | ((with_reducible show Dw.wStar _ _ _); ((with_reducible apply Dw.w_star1); (fail "S"); (fail "S"))) | ((with_reducible show Dw.wFd _ _ _ _ _); ((with_reducible apply Dw.w_fd); (fail "S"); (fail "S"); (fail "S"); (fail "S"); (fail "S"); (fail "S"))) | ((with_reducible show Dw.wBd _ _); with_reducible apply Dw.wBd_c) | ((with_reducible show ∃ _, _); (fail "x58")) | with_reducible refine Dw.w_tt ?_ | (fail "x60")))
local macro_rules | `(tactic| fail "x62") => `(tactic| (first | ((with_reducible show Dw.wE _ _ _ _); (fail "x54")) | ((with_reducible show Dw.wA _ _ _ _); (fail "x55")) | ((with_reducible show Dw.wI _ _ _ _); (fail "x56")) | ((with_reducible show Dw.wri _ _ _); (fail "x57")) | ((with_reducible show Dw.wbo _ _ _ _ _); ((with_reducible apply Dw.w_bo2); (fail "S"))) | ((with_reducible show Dw.wTu _ _ _ _); ((with_reducible apply Dw.w_tu); (fail "S"); (fail "S"))) | (fail "x61")))
local macro_rules | `(tactic| fail "x63") => `(tactic| (first | ((with_reducible show Dw.wSt _ _ _ _); ((with_reducible apply Dw.w_st); (fail "S"))) | ((with_reducible show Dw.wB _ _ _ _); ((with_reducible apply Dw.w_b); (fail "S"))) | ((with_reducible show Dw.wC _ _ _ _); ((with_reducible apply Dw.wC_ok); (fail "S"); (fail "S"))) | ((with_reducible show Dw.wr (Option.map _ _) _ _); (fail "x47")) | ((with_reducible show Dw.wr _ _ _); (fail "x49")) | ((with_reducible show Dw.wM _ _ _ _ _ _ _); ((with_reducible apply Dw.wM_ok); (fail "S"); (fail "S"); (fail "S"); (fail "S"))) | (fail "x62")))
local macro_rules | `(tactic| fail "x64") => `(tactic| (first | ((with_reducible show Dw.wr (Dw.op2 _ _ _ _) _ _); (fail "x40")) | ((with_reducible show Dw.wr (Option.bind (Dw.pk _ _) _) _ _); (fail "x41")) | ((with_reducible show Dw.wr (Option.bind (Dw.pks _ _) _) _ _); (fail "x42")) | ((with_reducible show Dw.wr (Option.bind (Dw.frzs _ _) _) _ _); (fail "x43")) | ((with_reducible show Dw.wr (Option.bind (Dw.frz _ _) _) _ _); (fail "x44")) | ((with_reducible show Dw.wS _ _ _ _); (fail "x46")) | (fail "x63")))
local macro_rules | `(tactic| fail "V") => `(tactic| (first | with_reducible apply Dw.VR.h | (fail "x64")))
section
/-- texts of ordinary signs, not too long -/
def okS (x : List Nat) : Prop := x.length ≤ 1000 ∧ ∀ c ∈ x, c < 128
theorem okS.len {x : List Nat} (h : okS x) : x.length ≤ sizeLine := Nat.le_trans h.1 (by decide)
abbrev dI (ns : List Int) : List D := ns.map D.int
/-- a slot that may be written, and holds no thing of one's own -/
def flat : SV → Bool
  | .own _ _ => false
  | .xn _ => false
  | _ => true
/-- the first k signs of p match the first j letters of t -/
def Mb (p t : List Nat) : Nat → Nat → Bool
  | 0, 0 => true
  | 0, _ + 1 => false
  | k + 1, 0 => (p.getD k 0 == 42) && Mb p t k 0
  | k + 1, j + 1 => if (p.getD k 0 == 42) = true then Mb p t k (j + 1) || Mb p t (k + 1) j else Mb p t k j && (p.getD k 0 == 63 || p.getD k 0 == t.getD j 0)
termination_by k j => (k, j)
theorem inB_int (z : Int) : ∀ ls : List Int, inB (.int z) (dI ls) = decide (z ∈ ls)
  | [] => rfl
  | a :: ls => by
    have ih := inB_int z ls
    unfold inB at ih ⊢
    rw [dI, List.map_cons, List.any_cons, ih]
    by_cases h : a = z
    · subst h; simp [eqB]
    · have h' : ¬ z = a := fun e => h e.symm
      simp [eqB, h, h']
theorem flat_dI (ls : List Int) : (dI ls).all flatD = true := by
  rw [List.all_eq_true]
  intro x hx
  obtain ⟨z, _, rfl⟩ := List.mem_map.mp hx
  rfl
theorem in_tupI0 {z : Int} {ls : List Int} : inD (.int z) (.tup (dI ls)) = some (.d (.bl (decide (z ∈ ls)))) := by
  show (if flatD (.int z) && (dI ls).all flatD then some (RV.d (.bl (inB (.int z) (dI ls)))) else none) = _
  rw [flat_dI, inB_int]
  rfl
theorem in_lstI0 {z : Int} {ls : List Int} : inD (.int z) (.lst (dI ls)) = some (.d (.bl (decide (z ∈ ls)))) := by
  show (if (flatD (.int z) && (dI ls).all flatD) || _ then some (RV.d (.bl (inB (.int z) (dI ls)))) else none) = _
  rw [flat_dI, inB_int]
  rfl
theorem in_two0 {a b c : List Nat} : inD (.str a) (.tup [.str b, .str c]) = some (.d (.bl (a == b || a == c))) := by
  show (if (flatD (.str a) && [D.str b, .str c].all flatD) = true then some (RV.d (.bl (inB (.str a) [.str b, .str c]))) else none) = _
  rw [if_pos (show (flatD (.str a) && [D.str b, .str c].all flatD) = true by rfl)]
  unfold inB
  simp only [List.any_cons, List.any_nil, Bool.or_false, eqB]
  rw [show (b == a) = (a == b) from BEq.comm, show (c == a) = (a == c) from BEq.comm]
theorem in_tupI {z : Int} {ls : List Int} : inG (.int z) (.tup (dI ls)) = some (.d (.bl (decide (z ∈ ls)))) := inG_in in_tupI0
theorem in_lstI {z : Int} {ls : List Int} : inG (.int z) (.lst (dI ls)) = some (.d (.bl (decide (z ∈ ls)))) := inG_in in_lstI0
theorem in_two {a b c : List Nat} : inG (.str a) (.tup [.str b, .str c]) = some (.d (.bl (a == b || a == c))) := inG_in in_two0
theorem len2 {a b : D} : [a, b].length ≤ 100000 := show 2 ≤ 100000 by decide
theorem one_eq (a b : Nat) : ([a] == [b]) = (a == b) := by
  by_cases h : a = b
  · subst h; simp
  · simp [h]
/-- the turn of next_lengths at sign i -/
theorem next_turn {p t : List Nat} {ls fs : List Int} {i j s : Nat} {m : Bool} (hs : p.getD i 0 = s) (hi : i < p.length) (hf : fs.length ≤ 1000)
    (hls : ∀ k : Nat, k ≤ p.length → ((k : Int) ∈ ls ↔ Mb p t k j = true)) (hm : m = Mb p t i (j + 1)) :
    l_next_lengths_1 [.d (.str p), .d (.tup (dI ls)), .d (.str [t.getD j 0]), .own false (.lst (dI fs)), .d (.bl m), .d (.int i), .d (.str [s])] =
      some (.nx [.d (.str p), .d (.tup (dI ls)), .d (.str [t.getD j 0]), .own false (.lst (dI (if Mb p t (i + 1) (j + 1) = true then fs ++ [(i : Int) + 1] else fs))), .d (.bl (Mb p t (i + 1) (j + 1))), .d (.int i), .d (.str [s])]) := by
  have e1 : (((i : Int) + 1) ∈ ls) ↔ Mb p t (i + 1) j = true := by
    have := hls (i + 1) (by omega)
    push_cast at this
    exact this
  have e2 : ((i : Int) ∈ ls) ↔ Mb p t i j = true := hls i (by omega)
  have tail : ∀ b : Bool, iteS (varE 4) (exprS (mutE appU (varE 3) (consA (two (op2 addD) (varE 5) (constE (.int 1))) nilA))) skipS [.d (.str p), .d (.tup (dI ls)), .d (.str [t.getD j 0]), .own false (.lst (dI fs)), .d (.bl b), .d (.int i), .d (.str [s])] =
      some (.nx [.d (.str p), .d (.tup (dI ls)), .d (.str [t.getD j 0]), .own false (.lst (dI (if b = true then fs ++ [(i : Int) + 1] else fs))), .d (.bl b), .d (.int i), .d (.str [s])]) := by
    intro b
    cases b with
    | false => exact ev_iteF (a := .d (.bl false)) (ev_var rfl) rfl ev_skip
    | true =>
      refine ev_iteT (a := .d (.bl true)) (ev_var rfl) rfl ?_
      have a1 : appU (dI fs) [.int ((i : Int) + 1)] = some (.non, dI fs ++ [.int ((i : Int) + 1)]) := Dw.app_ok (by rw [dI, List.length_map]; omega)
      have a2 : dI (fs ++ [(i : Int) + 1]) = dI fs ++ [.int ((i : Int) + 1)] := by rw [dI, dI, List.map_append]; rfl
      rw [if_pos rfl, a2]
      repeat' (first | with_reducible exact a1 | with_reducible exact Dw.ty_str | with_reducible exact Dw.ty_lst | with_reducible exact Dw.lst_eq | with_reducible exact Dw.set_z | with_reducible exact Dw.ret_d | with_reducible exact Dw.ret_own | with_reducible exact Dw.mapd_nn | with_reducible exact Dw.ev_const | with_reducible exact Dw.ev_nil | with_reducible exact Dw.pk_d | with_reducible exact Dw.pk_own | with_reducible exact Dw.pks_nil | with_reducible exact Dw.frz_d | with_reducible exact Dw.frz_own | with_reducible exact Dw.frzs_nil | with_reducible exact Dw.tru_bl | with_reducible exact Dw.ev_skip | with_reducible exact Dw.len_lst | with_reducible exact Dw.len_tup | with_reducible exact Dw.eq_int | with_reducible exact Dw.ne_int | with_reducible exact Dw.eq_str | with_reducible exact Dw.ne_str | with_reducible exact Dw.eq_bl | with_reducible exact Dw.ne_bl | with_reducible exact Dw.lt_int' | with_reducible exact Dw.lt_str' | with_reducible exact Dw.le_int' | with_reducible exact Dw.gt_int' | with_reducible exact Dw.ge_int' | with_reducible exact Dw.add_int' | with_reducible exact Dw.sub_int' | with_reducible exact Dw.neg_int' | with_reducible exact Dw.ord_str | with_reducible exact Dw.int_int | with_reducible exact Dw.int_bl | with_reducible exact Dw.list_lst | with_reducible exact Dw.list_tup | with_reducible exact Dw.tup_lst | with_reducible exact Dw.tup_tup | with_reducible exact Dw.it_lst | with_reducible exact Dw.it_tup | with_reducible exact Dw.it_str | ((with_reducible apply Dw.ev_var); exact rfl) | ((with_reducible apply Dw.ev_varO); exact rfl) | ((with_reducible apply Dw.pk_cv); exact rfl) | ((with_reducible apply Dw.fs_ok); exact rfl) | ((with_reducible apply Dw.gE); exact rfl) | with_reducible apply Dw.ev_two | with_reducible apply Dw.ev_one | with_reducible apply Dw.ev_cons | with_reducible apply Dw.pks_cons | with_reducible apply Dw.ev_callE | with_reducible apply Dw.ev_isi | with_reducible apply Dw.frzs_cons | with_reducible apply Dw.ev_tup | with_reducible apply Dw.ev_lst | with_reducible apply Dw.ev_not | with_reducible apply Dw.ev_met | with_reducible apply Dw.ev_mut | with_reducible apply Dw.ev_ret | with_reducible apply Dw.ev_expr | with_reducible apply Dw.ev_asg | with_reducible apply Dw.ev_args | with_reducible apply Dw.ev_src | with_reducible apply Dw.ev_callD | with_reducible apply Dw.mapd_c | with_reducible apply Dw.mapd_d | with_reducible apply Dw.set_s | with_reducible apply Dw.st_d | with_reducible apply Dw.st_own | with_reducible apply Dw.st_cv | with_reducible apply Dw.frz_cv | ((with_reducible apply Dw.len_str); assumption) | ((with_reducible apply Dw.get_str) <;> assumption) | with_reducible assumption | ((with_reducible show Dw.okI _ = true); exact rfl))
  unfold l_next_lengths_1
  refine ev_seq2 (env1 := [.d (.str p), .d (.tup (dI ls)), .d (.str [t.getD j 0]), .own false (.lst (dI fs)), .d (.bl (Mb p t (i + 1) (j + 1))), .d (.int i), .d (.str [s])]) ?_ (tail _)
  have c1 : two (op2 eqD) (varE 6) (constE (.str [42])) [.d (.str p), .d (.tup (dI ls)), .d (.str [t.getD j 0]), .own false (.lst (dI fs)), .d (.bl m), .d (.int i), .d (.str [s])] = some (.ok (.d (.bl ([s] == [42]))) [.d (.str p), .d (.tup (dI ls)), .d (.str [t.getD j 0]), .own false (.lst (dI fs)), .d (.bl m), .d (.int i), .d (.str [s])]) := by
    repeat' (first  | with_reducible exact Dw.ty_str | with_reducible exact Dw.ty_lst | with_reducible exact Dw.lst_eq | with_reducible exact Dw.set_z | with_reducible exact Dw.ret_d | with_reducible exact Dw.ret_own | with_reducible exact Dw.mapd_nn | with_reducible exact Dw.ev_const | with_reducible exact Dw.ev_nil | with_reducible exact Dw.pk_d | with_reducible exact Dw.pk_own | with_reducible exact Dw.pks_nil | with_reducible exact Dw.frz_d | with_reducible exact Dw.frz_own | with_reducible exact Dw.frzs_nil | with_reducible exact Dw.tru_bl | with_reducible exact Dw.ev_skip | with_reducible exact Dw.len_lst | with_reducible exact Dw.len_tup | with_reducible exact Dw.eq_int | with_reducible exact Dw.ne_int | with_reducible exact Dw.eq_str | with_reducible exact Dw.ne_str | with_reducible exact Dw.eq_bl | with_reducible exact Dw.ne_bl | with_reducible exact Dw.lt_int' | with_reducible exact Dw.lt_str' | with_reducible exact Dw.le_int' | with_reducible exact Dw.gt_int' | with_reducible exact Dw.ge_int' | with_reducible exact Dw.add_int' | with_reducible exact Dw.sub_int' | with_reducible exact Dw.neg_int' | with_reducible exact Dw.ord_str | with_reducible exact Dw.int_int | with_reducible exact Dw.int_bl | with_reducible exact Dw.list_lst | with_reducible exact Dw.list_tup | with_reducible exact Dw.tup_lst | with_reducible exact Dw.tup_tup | with_reducible exact Dw.it_lst | with_reducible exact Dw.it_tup | with_reducible exact Dw.it_str | ((with_reducible apply Dw.ev_var); exact rfl) | ((with_reducible apply Dw.ev_varO); exact rfl) | ((with_reducible apply Dw.pk_cv); exact rfl) | ((with_reducible apply Dw.fs_ok); exact rfl) | ((with_reducible apply Dw.gE); exact rfl) | with_reducible apply Dw.ev_two | with_reducible apply Dw.ev_one | with_reducible apply Dw.ev_cons | with_reducible apply Dw.pks_cons | with_reducible apply Dw.ev_callE | with_reducible apply Dw.ev_isi | with_reducible apply Dw.frzs_cons | with_reducible apply Dw.ev_tup | with_reducible apply Dw.ev_lst | with_reducible apply Dw.ev_not | with_reducible apply Dw.ev_met | with_reducible apply Dw.ev_mut | with_reducible apply Dw.ev_ret | with_reducible apply Dw.ev_expr | with_reducible apply Dw.ev_asg | with_reducible apply Dw.ev_args | with_reducible apply Dw.ev_src | with_reducible apply Dw.ev_callD | with_reducible apply Dw.mapd_c | with_reducible apply Dw.mapd_d | with_reducible apply Dw.set_s | with_reducible apply Dw.st_d | with_reducible apply Dw.st_own | with_reducible apply Dw.st_cv | with_reducible apply Dw.frz_cv | ((with_reducible apply Dw.len_str); assumption) | ((with_reducible apply Dw.get_str) <;> assumption) | with_reducible assumption | ((with_reducible show Dw.okI _ = true); exact rfl))
  rw [one_eq] at c1
  cases hb : s == 42 with
  | true =>
    rw [hb] at c1
    refine ev_iteT c1 rfl ?_
    have e3 : Mb p t (i + 1) (j + 1) = (m || decide (((i : Int) + 1) ∈ ls)) := by
      rw [Mb, hs, hb, if_pos rfl, hm]
      congr 1
      rw [Bool.eq_iff_iff, decide_eq_true_eq]
      exact e1.symm
    rw [e3]
    refine ev_asg (ev_orB (by repeat' (first  | with_reducible exact Dw.ty_str | with_reducible exact Dw.ty_lst | with_reducible exact Dw.lst_eq | with_reducible exact Dw.set_z | with_reducible exact Dw.ret_d | with_reducible exact Dw.ret_own | with_reducible exact Dw.mapd_nn | with_reducible exact Dw.ev_const | with_reducible exact Dw.ev_nil | with_reducible exact Dw.pk_d | with_reducible exact Dw.pk_own | with_reducible exact Dw.pks_nil | with_reducible exact Dw.frz_d | with_reducible exact Dw.frz_own | with_reducible exact Dw.frzs_nil | with_reducible exact Dw.tru_bl | with_reducible exact Dw.ev_skip | with_reducible exact Dw.len_lst | with_reducible exact Dw.len_tup | with_reducible exact Dw.eq_int | with_reducible exact Dw.ne_int | with_reducible exact Dw.eq_str | with_reducible exact Dw.ne_str | with_reducible exact Dw.eq_bl | with_reducible exact Dw.ne_bl | with_reducible exact Dw.lt_int' | with_reducible exact Dw.lt_str' | with_reducible exact Dw.le_int' | with_reducible exact Dw.gt_int' | with_reducible exact Dw.ge_int' | with_reducible exact Dw.add_int' | with_reducible exact Dw.sub_int' | with_reducible exact Dw.neg_int' | with_reducible exact Dw.ord_str | with_reducible exact Dw.int_int | with_reducible exact Dw.int_bl | with_reducible exact Dw.list_lst | with_reducible exact Dw.list_tup | with_reducible exact Dw.tup_lst | with_reducible exact Dw.tup_tup | with_reducible exact Dw.it_lst | with_reducible exact Dw.it_tup | with_reducible exact Dw.it_str | ((with_reducible apply Dw.ev_var); exact rfl) | ((with_reducible apply Dw.ev_varO); exact rfl) | ((with_reducible apply Dw.pk_cv); exact rfl) | ((with_reducible apply Dw.fs_ok); exact rfl) | ((with_reducible apply Dw.gE); exact rfl) | with_reducible apply Dw.ev_two | with_reducible apply Dw.ev_one | with_reducible apply Dw.ev_cons | with_reducible apply Dw.pks_cons | with_reducible apply Dw.ev_callE | with_reducible apply Dw.ev_isi | with_reducible apply Dw.frzs_cons | with_reducible apply Dw.ev_tup | with_reducible apply Dw.ev_lst | with_reducible apply Dw.ev_not | with_reducible apply Dw.ev_met | with_reducible apply Dw.ev_mut | with_reducible apply Dw.ev_ret | with_reducible apply Dw.ev_expr | with_reducible apply Dw.ev_asg | with_reducible apply Dw.ev_args | with_reducible apply Dw.ev_src | with_reducible apply Dw.ev_callD | with_reducible apply Dw.mapd_c | with_reducible apply Dw.mapd_d | with_reducible apply Dw.set_s | with_reducible apply Dw.st_d | with_reducible apply Dw.st_own | with_reducible apply Dw.st_cv | with_reducible apply Dw.frz_cv | ((with_reducible apply Dw.len_str); assumption) | ((with_reducible apply Dw.get_str) <;> assumption) | with_reducible assumption | ((with_reducible show Dw.okI _ = true); exact rfl))) (by repeat' (first | with_reducible exact in_tupI | with_reducible exact Dw.ty_str | with_reducible exact Dw.ty_lst | with_reducible exact Dw.lst_eq | with_reducible exact Dw.set_z | with_reducible exact Dw.ret_d | with_reducible exact Dw.ret_own | with_reducible exact Dw.mapd_nn | with_reducible exact Dw.ev_const | with_reducible exact Dw.ev_nil | with_reducible exact Dw.pk_d | with_reducible exact Dw.pk_own | with_reducible exact Dw.pks_nil | with_reducible exact Dw.frz_d | with_reducible exact Dw.frz_own | with_reducible exact Dw.frzs_nil | with_reducible exact Dw.tru_bl | with_reducible exact Dw.ev_skip | with_reducible exact Dw.len_lst | with_reducible exact Dw.len_tup | with_reducible exact Dw.eq_int | with_reducible exact Dw.ne_int | with_reducible exact Dw.eq_str | with_reducible exact Dw.ne_str | with_reducible exact Dw.eq_bl | with_reducible exact Dw.ne_bl | with_reducible exact Dw.lt_int' | with_reducible exact Dw.lt_str' | with_reducible exact Dw.le_int' | with_reducible exact Dw.gt_int' | with_reducible exact Dw.ge_int' | with_reducible exact Dw.add_int' | with_reducible exact Dw.sub_int' | with_reducible exact Dw.neg_int' | with_reducible exact Dw.ord_str | with_reducible exact Dw.int_int | with_reducible exact Dw.int_bl | with_reducible exact Dw.list_lst | with_reducible exact Dw.list_tup | with_reducible exact Dw.tup_lst | with_reducible exact Dw.tup_tup | with_reducible exact Dw.it_lst | with_reducible exact Dw.it_tup | with_reducible exact Dw.it_str | ((with_reducible apply Dw.ev_var); exact rfl) | ((with_reducible apply Dw.ev_varO); exact rfl) | ((with_reducible apply Dw.pk_cv); exact rfl) | ((with_reducible apply Dw.fs_ok); exact rfl) | ((with_reducible apply Dw.gE); exact rfl) | with_reducible apply Dw.ev_two | with_reducible apply Dw.ev_one | with_reducible apply Dw.ev_cons | with_reducible apply Dw.pks_cons | with_reducible apply Dw.ev_callE | with_reducible apply Dw.ev_isi | with_reducible apply Dw.frzs_cons | with_reducible apply Dw.ev_tup | with_reducible apply Dw.ev_lst | with_reducible apply Dw.ev_not | with_reducible apply Dw.ev_met | with_reducible apply Dw.ev_mut | with_reducible apply Dw.ev_ret | with_reducible apply Dw.ev_expr | with_reducible apply Dw.ev_asg | with_reducible apply Dw.ev_args | with_reducible apply Dw.ev_src | with_reducible apply Dw.ev_callD | with_reducible apply Dw.mapd_c | with_reducible apply Dw.mapd_d | with_reducible apply Dw.set_s | with_reducible apply Dw.st_d | with_reducible apply Dw.st_own | with_reducible apply Dw.st_cv | with_reducible apply Dw.frz_cv | ((with_reducible apply Dw.len_str); assumption) | ((with_reducible apply Dw.get_str) <;> assumption) | with_reducible assumption | ((with_reducible show Dw.okI _ = true); exact rfl)))) (by repeat' (first  | with_reducible exact Dw.ty_str | with_reducible exact Dw.ty_lst | with_reducible exact Dw.lst_eq | with_reducible exact Dw.set_z | with_reducible exact Dw.ret_d | with_reducible exact Dw.ret_own | with_reducible exact Dw.mapd_nn | with_reducible exact Dw.ev_const | with_reducible exact Dw.ev_nil | with_reducible exact Dw.pk_d | with_reducible exact Dw.pk_own | with_reducible exact Dw.pks_nil | with_reducible exact Dw.frz_d | with_reducible exact Dw.frz_own | with_reducible exact Dw.frzs_nil | with_reducible exact Dw.tru_bl | with_reducible exact Dw.ev_skip | with_reducible exact Dw.len_lst | with_reducible exact Dw.len_tup | with_reducible exact Dw.eq_int | with_reducible exact Dw.ne_int | with_reducible exact Dw.eq_str | with_reducible exact Dw.ne_str | with_reducible exact Dw.eq_bl | with_reducible exact Dw.ne_bl | with_reducible exact Dw.lt_int' | with_reducible exact Dw.lt_str' | with_reducible exact Dw.le_int' | with_reducible exact Dw.gt_int' | with_reducible exact Dw.ge_int' | with_reducible exact Dw.add_int' | with_reducible exact Dw.sub_int' | with_reducible exact Dw.neg_int' | with_reducible exact Dw.ord_str | with_reducible exact Dw.int_int | with_reducible exact Dw.int_bl | with_reducible exact Dw.list_lst | with_reducible exact Dw.list_tup | with_reducible exact Dw.tup_lst | with_reducible exact Dw.tup_tup | with_reducible exact Dw.it_lst | with_reducible exact Dw.it_tup | with_reducible exact Dw.it_str | ((with_reducible apply Dw.ev_var); exact rfl) | ((with_reducible apply Dw.ev_varO); exact rfl) | ((with_reducible apply Dw.pk_cv); exact rfl) | ((with_reducible apply Dw.fs_ok); exact rfl) | ((with_reducible apply Dw.gE); exact rfl) | with_reducible apply Dw.ev_two | with_reducible apply Dw.ev_one | with_reducible apply Dw.ev_cons | with_reducible apply Dw.pks_cons | with_reducible apply Dw.ev_callE | with_reducible apply Dw.ev_isi | with_reducible apply Dw.frzs_cons | with_reducible apply Dw.ev_tup | with_reducible apply Dw.ev_lst | with_reducible apply Dw.ev_not | with_reducible apply Dw.ev_met | with_reducible apply Dw.ev_mut | with_reducible apply Dw.ev_ret | with_reducible apply Dw.ev_expr | with_reducible apply Dw.ev_asg | with_reducible apply Dw.ev_args | with_reducible apply Dw.ev_src | with_reducible apply Dw.ev_callD | with_reducible apply Dw.mapd_c | with_reducible apply Dw.mapd_d | with_reducible apply Dw.set_s | with_reducible apply Dw.st_d | with_reducible apply Dw.st_own | with_reducible apply Dw.st_cv | with_reducible apply Dw.frz_cv | ((with_reducible apply Dw.len_str); assumption) | ((with_reducible apply Dw.get_str) <;> assumption) | with_reducible assumption | ((with_reducible show Dw.okI _ = true); exact rfl)))
  | false =>
    rw [hb] at c1
    refine ev_iteF c1 rfl ?_
    have e3 : Mb p t (i + 1) (j + 1) = (decide ((i : Int) ∈ ls) && ([s] == [63] || [s] == [t.getD j 0])) := by
      rw [Mb, hs, hb, if_neg Bool.false_ne_true, one_eq, one_eq]
      congr 1
      rw [Bool.eq_iff_iff, decide_eq_true_eq]
      exact e2.symm
    rw [e3]
    refine ev_asg (ev_andB (by repeat' (first | with_reducible exact in_tupI | with_reducible exact Dw.ty_str | with_reducible exact Dw.ty_lst | with_reducible exact Dw.lst_eq | with_reducible exact Dw.set_z | with_reducible exact Dw.ret_d | with_reducible exact Dw.ret_own | with_reducible exact Dw.mapd_nn | with_reducible exact Dw.ev_const | with_reducible exact Dw.ev_nil | with_reducible exact Dw.pk_d | with_reducible exact Dw.pk_own | with_reducible exact Dw.pks_nil | with_reducible exact Dw.frz_d | with_reducible exact Dw.frz_own | with_reducible exact Dw.frzs_nil | with_reducible exact Dw.tru_bl | with_reducible exact Dw.ev_skip | with_reducible exact Dw.len_lst | with_reducible exact Dw.len_tup | with_reducible exact Dw.eq_int | with_reducible exact Dw.ne_int | with_reducible exact Dw.eq_str | with_reducible exact Dw.ne_str | with_reducible exact Dw.eq_bl | with_reducible exact Dw.ne_bl | with_reducible exact Dw.lt_int' | with_reducible exact Dw.lt_str' | with_reducible exact Dw.le_int' | with_reducible exact Dw.gt_int' | with_reducible exact Dw.ge_int' | with_reducible exact Dw.add_int' | with_reducible exact Dw.sub_int' | with_reducible exact Dw.neg_int' | with_reducible exact Dw.ord_str | with_reducible exact Dw.int_int | with_reducible exact Dw.int_bl | with_reducible exact Dw.list_lst | with_reducible exact Dw.list_tup | with_reducible exact Dw.tup_lst | with_reducible exact Dw.tup_tup | with_reducible exact Dw.it_lst | with_reducible exact Dw.it_tup | with_reducible exact Dw.it_str | ((with_reducible apply Dw.ev_var); exact rfl) | ((with_reducible apply Dw.ev_varO); exact rfl) | ((with_reducible apply Dw.pk_cv); exact rfl) | ((with_reducible apply Dw.fs_ok); exact rfl) | ((with_reducible apply Dw.gE); exact rfl) | with_reducible apply Dw.ev_two | with_reducible apply Dw.ev_one | with_reducible apply Dw.ev_cons | with_reducible apply Dw.pks_cons | with_reducible apply Dw.ev_callE | with_reducible apply Dw.ev_isi | with_reducible apply Dw.frzs_cons | with_reducible apply Dw.ev_tup | with_reducible apply Dw.ev_lst | with_reducible apply Dw.ev_not | with_reducible apply Dw.ev_met | with_reducible apply Dw.ev_mut | with_reducible apply Dw.ev_ret | with_reducible apply Dw.ev_expr | with_reducible apply Dw.ev_asg | with_reducible apply Dw.ev_args | with_reducible apply Dw.ev_src | with_reducible apply Dw.ev_callD | with_reducible apply Dw.mapd_c | with_reducible apply Dw.mapd_d | with_reducible apply Dw.set_s | with_reducible apply Dw.st_d | with_reducible apply Dw.st_own | with_reducible apply Dw.st_cv | with_reducible apply Dw.frz_cv | ((with_reducible apply Dw.len_str); assumption) | ((with_reducible apply Dw.get_str) <;> assumption) | with_reducible assumption | ((with_reducible show Dw.okI _ = true); exact rfl))) (by repeat' (first | with_reducible exact in_two | with_reducible exact len2 | with_reducible exact Dw.ty_str | with_reducible exact Dw.ty_lst | with_reducible exact Dw.lst_eq | with_reducible exact Dw.set_z | with_reducible exact Dw.ret_d | with_reducible exact Dw.ret_own | with_reducible exact Dw.mapd_nn | with_reducible exact Dw.ev_const | with_reducible exact Dw.ev_nil | with_reducible exact Dw.pk_d | with_reducible exact Dw.pk_own | with_reducible exact Dw.pks_nil | with_reducible exact Dw.frz_d | with_reducible exact Dw.frz_own | with_reducible exact Dw.frzs_nil | with_reducible exact Dw.tru_bl | with_reducible exact Dw.ev_skip | with_reducible exact Dw.len_lst | with_reducible exact Dw.len_tup | with_reducible exact Dw.eq_int | with_reducible exact Dw.ne_int | with_reducible exact Dw.eq_str | with_reducible exact Dw.ne_str | with_reducible exact Dw.eq_bl | with_reducible exact Dw.ne_bl | with_reducible exact Dw.lt_int' | with_reducible exact Dw.lt_str' | with_reducible exact Dw.le_int' | with_reducible exact Dw.gt_int' | with_reducible exact Dw.ge_int' | with_reducible exact Dw.add_int' | with_reducible exact Dw.sub_int' | with_reducible exact Dw.neg_int' | with_reducible exact Dw.ord_str | with_reducible exact Dw.int_int | with_reducible exact Dw.int_bl | with_reducible exact Dw.list_lst | with_reducible exact Dw.list_tup | with_reducible exact Dw.tup_lst | with_reducible exact Dw.tup_tup | with_reducible exact Dw.it_lst | with_reducible exact Dw.it_tup | with_reducible exact Dw.it_str | ((with_reducible apply Dw.ev_var); exact rfl) | ((with_reducible apply Dw.ev_varO); exact rfl) | ((with_reducible apply Dw.pk_cv); exact rfl) | ((with_reducible apply Dw.fs_ok); exact rfl) | ((with_reducible apply Dw.gE); exact rfl) | with_reducible apply Dw.ev_two | with_reducible apply Dw.ev_one | with_reducible apply Dw.ev_cons | with_reducible apply Dw.pks_cons | with_reducible apply Dw.ev_callE | with_reducible apply Dw.ev_isi | with_reducible apply Dw.frzs_cons | with_reducible apply Dw.ev_tup | with_reducible apply Dw.ev_lst | with_reducible apply Dw.ev_not | with_reducible apply Dw.ev_met | with_reducible apply Dw.ev_mut | with_reducible apply Dw.ev_ret | with_reducible apply Dw.ev_expr | with_reducible apply Dw.ev_asg | with_reducible apply Dw.ev_args | with_reducible apply Dw.ev_src | with_reducible apply Dw.ev_callD | with_reducible apply Dw.mapd_c | with_reducible apply Dw.mapd_d | with_reducible apply Dw.set_s | with_reducible apply Dw.st_d | with_reducible apply Dw.st_own | with_reducible apply Dw.st_cv | with_reducible apply Dw.frz_cv | ((with_reducible apply Dw.len_str); assumption) | ((with_reducible apply Dw.get_str) <;> assumption) | with_reducible assumption | ((with_reducible show Dw.okI _ = true); exact rfl)))) (by repeat' (first  | with_reducible exact Dw.ty_str | with_reducible exact Dw.ty_lst | with_reducible exact Dw.lst_eq | with_reducible exact Dw.set_z | with_reducible exact Dw.ret_d | with_reducible exact Dw.ret_own | with_reducible exact Dw.mapd_nn | with_reducible exact Dw.ev_const | with_reducible exact Dw.ev_nil | with_reducible exact Dw.pk_d | with_reducible exact Dw.pk_own | with_reducible exact Dw.pks_nil | with_reducible exact Dw.frz_d | with_reducible exact Dw.frz_own | with_reducible exact Dw.frzs_nil | with_reducible exact Dw.tru_bl | with_reducible exact Dw.ev_skip | with_reducible exact Dw.len_lst | with_reducible exact Dw.len_tup | with_reducible exact Dw.eq_int | with_reducible exact Dw.ne_int | with_reducible exact Dw.eq_str | with_reducible exact Dw.ne_str | with_reducible exact Dw.eq_bl | with_reducible exact Dw.ne_bl | with_reducible exact Dw.lt_int' | with_reducible exact Dw.lt_str' | with_reducible exact Dw.le_int' | with_reducible exact Dw.gt_int' | with_reducible exact Dw.ge_int' | with_reducible exact Dw.add_int' | with_reducible exact Dw.sub_int' | with_reducible exact Dw.neg_int' | with_reducible exact Dw.ord_str | with_reducible exact Dw.int_int | with_reducible exact Dw.int_bl | with_reducible exact Dw.list_lst | with_reducible exact Dw.list_tup | with_reducible exact Dw.tup_lst | with_reducible exact Dw.tup_tup | with_reducible exact Dw.it_lst | with_reducible exact Dw.it_tup | with_reducible exact Dw.it_str | ((with_reducible apply Dw.ev_var); exact rfl) | ((with_reducible apply Dw.ev_varO); exact rfl) | ((with_reducible apply Dw.pk_cv); exact rfl) | ((with_reducible apply Dw.fs_ok); exact rfl) | ((with_reducible apply Dw.gE); exact rfl) | with_reducible apply Dw.ev_two | with_reducible apply Dw.ev_one | with_reducible apply Dw.ev_cons | with_reducible apply Dw.pks_cons | with_reducible apply Dw.ev_callE | with_reducible apply Dw.ev_isi | with_reducible apply Dw.frzs_cons | with_reducible apply Dw.ev_tup | with_reducible apply Dw.ev_lst | with_reducible apply Dw.ev_not | with_reducible apply Dw.ev_met | with_reducible apply Dw.ev_mut | with_reducible apply Dw.ev_ret | with_reducible apply Dw.ev_expr | with_reducible apply Dw.ev_asg | with_reducible apply Dw.ev_args | with_reducible apply Dw.ev_src | with_reducible apply Dw.ev_callD | with_reducible apply Dw.mapd_c | with_reducible apply Dw.mapd_d | with_reducible apply Dw.set_s | with_reducible apply Dw.st_d | with_reducible apply Dw.st_own | with_reducible apply Dw.st_cv | with_reducible apply Dw.frz_cv | ((with_reducible apply Dw.len_str); assumption) | ((with_reducible apply Dw.get_str) <;> assumption) | with_reducible assumption | ((with_reducible show Dw.okI _ = true); exact rfl)))
theorem enumL_cons (i : Nat) (x : D) (xs : List D) : enumL i (x :: xs) = .tup [.int (i : Nat), x] :: enumL (i + 1) xs := rfl
theorem conts42 : ([42] : List Nat).contains = fun c => c == 42 := by
  funext c
  by_cases h : c = 42
  · subst h; rfl
  · simp [h]
theorem M0 {t : List Nat} : ∀ (p : List Nat) (k : Nat), Mb p t k 0 = true ↔ ∀ i, i < k → p.getD i 0 = 42
  | p, 0 => by simp [Mb]
  | p, k + 1 => by
    rw [Mb, Bool.and_eq_true, M0 p k, beq_iff_eq]
    constructor
    · rintro ⟨h1, h2⟩ i hi
      by_cases e : i = k
      · rw [e]; exact h1
      · exact h2 i (by omega)
    · intro h
      exact ⟨h k (by omega), fun i hi => h i (by omega)⟩
theorem tw_spec : ∀ (p : List Nat) (k : Nat), k ≤ p.length → (k ≤ (p.takeWhile (· == 42)).length ↔ ∀ i, i < k → p.getD i 0 = 42)
  | [], k, h => by
    have : k = 0 := by simpa using h
    subst this
    simp
  | c :: p, 0, _ => by simp
  | c :: p, k + 1, h => by
    have ih := tw_spec p k (by simpa using h)
    by_cases hc : c = 42
    · subst hc
      simp only [List.takeWhile_cons, beq_self_eq_true, if_true, List.length_cons, Nat.add_le_add_iff_right, ih]
      constructor
      · intro g i hi
        cases i with
        | zero => rfl
        | succ i => simpa using g i (by omega)
      · intro g i hi
        simpa using g (i + 1) (by omega)
    · have hc' : (c == 42) = false := by simpa using hc
      simp only [List.takeWhile_cons, hc', Bool.false_eq_true, if_false, List.length_nil]
      constructor
      · intro g; omega
      · intro g
        exact absurd (g 0 (by omega)) (by simpa using hc)
end
section
def goodc (c : Nat) : Prop := (97 ≤ c ∧ c < 123) ∨ c = 63 ∨ c = 42
def okP8 (p : List Nat) : Prop := p.length ≤ 8 ∧ ∀ c ∈ p, goodc c
abbrev sL (ps : List (List Nat)) : List D := ps.map D.str
def Lx (p t : List Nat) (j n : Nat) : List Int := ((List.range n).filter fun k => Mb p t k j).map fun k : Nat => (k : Int)
abbrev Ls (p t : List Nat) (j : Nat) : List Int := Lx p t j (p.length + 1)
theorem Lx_succ {p t : List Nat} {j n : Nat} : Lx p t j (n + 1) = if Mb p t n j = true then Lx p t j n ++ [(n : Int)] else Lx p t j n := by
  unfold Lx
  rw [List.range_succ, List.filter_append, List.map_append]
  by_cases h : Mb p t n j = true
  · rw [if_pos h, List.filter_cons_of_pos (p := fun k => Mb p t k j) h]
    rfl
  · rw [if_neg h, List.filter_cons_of_neg (p := fun k => Mb p t k j) h]
    simp
theorem Lx_mem {p t : List Nat} {j n k : Nat} : (k : Int) ∈ Lx p t j n ↔ k < n ∧ Mb p t k j = true := by
  unfold Lx
  rw [List.mem_map]
  constructor
  · rintro ⟨i, h, e⟩
    rw [List.mem_filter, List.mem_range] at h
    have : i = k := by omega
    subst this
    exact h
  · rintro ⟨h1, h2⟩
    exact ⟨k, List.mem_filter.mpr ⟨List.mem_range.mpr h1, h2⟩, rfl⟩
theorem Ls_mem {p t : List Nat} {j k : Nat} (h : k ≤ p.length) : (k : Int) ∈ Ls p t j ↔ Mb p t k j = true := by
  rw [Lx_mem]
  exact ⟨fun g => g.2, fun g => ⟨by omega, g⟩⟩
theorem Lx_len {p t : List Nat} {j n : Nat} : (Lx p t j n).length ≤ n := by
  unfold Lx
  rw [List.length_map]
  refine Nat.le_trans (List.length_filter_le _ _) ?_
  rw [List.length_range]
  exact Nat.le_refl _
theorem nextX_loop {p t : List Nat} {j : Nat} (hp : p.length ≤ 900) (suf : List Nat) : ∀ (pre : List Nat) (w5 w6 : SV), p = pre ++ suf → freeSlot (some w5) = true → freeSlot (some w6) = true →
    ∃ b' w5' w6', loopD (.two 5 6) l_next_lengths_1 (enumL pre.length (suf.map fun c => .str [c])) [.d (.str p), .d (.tup (dI (Ls p t j))), .d (.str [t.getD j 0]), .own false (.lst (dI (Lx p t (j + 1) (pre.length + 1)))), .d (.bl (Mb p t pre.length (j + 1))), w5, w6] =
      some (.nx [.d (.str p), .d (.tup (dI (Ls p t j))), .d (.str [t.getD j 0]), .own false (.lst (dI (Ls p t (j + 1)))), .d (.bl b'), w5', w6']) := by
  induction suf with
  | nil =>
    intro pre w5 w6 e _ _
    rw [List.append_nil] at e
    exact ⟨_, w5, w6, by rw [← e]; rfl⟩
  | cons c suf ih =>
    intro pre w5 w6 e f5 f6
    have hi : pre.length < p.length := by rw [e, List.length_append, List.length_cons]; omega
    have hc : p.getD pre.length 0 = c := by
      rw [e, List.getD_eq_getElem?_getD, List.getElem?_append_right (Nat.le_refl _), Nat.sub_self]
      rfl
    have hl := Lx_len (p := p) (t := t) (j := j + 1) (n := pre.length + 1)
    have tn := next_turn (p := p) (t := t) (ls := Ls p t j) (fs := Lx p t (j + 1) (pre.length + 1)) (i := pre.length) (j := j) (s := c) hc hi (by omega) (fun k hk => Ls_mem hk) rfl
    have hg : (if Mb p t (pre.length + 1) (j + 1) = true then Lx p t (j + 1) (pre.length + 1) ++ [(pre.length : Int) + 1] else Lx p t (j + 1) (pre.length + 1)) = Lx p t (j + 1) (pre.length + 1 + 1) := by
      rw [Lx_succ (n := pre.length + 1)]
      push_cast
      rfl
    rw [hg] at tn
    obtain ⟨b', w5', w6', h2⟩ := ih (pre ++ [c]) (.d (.int pre.length)) (.d (.str [c])) (by rw [e, List.append_assoc]; rfl) rfl rfl
    refine ⟨b', w5', w6', ?_⟩
    rw [List.map_cons, enumL_cons, loopD]
    simp only [putT, setSlot, List.getElem?_cons_succ, List.getElem?_cons_zero, f5, f6, if_true, Option.bind_some, List.set_cons_succ, List.set_cons_zero]
    rw [tn]
    dsimp only
    rw [List.length_append, List.length_singleton] at h2
    exact h2
theorem ev_nextX {p t : List Nat} {j : Nat} (hp : p.length ≤ 900) : ∃ o, m_next_lengths [.d (.str p), .d (.tup (dI (Ls p t j))), .d (.str [t.getD j 0])] = some (.ok (.d (.tup (dI (Ls p t (j + 1))))) o) := by
  have h00 : Mb p t 0 (j + 1) = false := by rw [Mb]
  obtain ⟨b, w5, w6, h2⟩ := nextX_loop (p := p) (t := t) (j := j) hp p [] .un .un rfl rfl rfl
  have hL : Lx p t (j + 1) (0 + 1) = [] := by
    rw [Lx_succ, if_neg (by rw [h00]; simp)]
    rfl
  rw [List.length_nil, h00, hL] at h2
  refine ⟨[.d (.str p), .d (.tup (dI (Ls p t j))), .d (.str [t.getD j 0])], defM_rt (a := .d (.tup (dI (Ls p t (j + 1))))) (env := [.d (.str p), .d (.tup (dI (Ls p t j))), .d (.str [t.getD j 0]), .own false (.lst (dI (Ls p t (j + 1)))), .d (.bl b), w5, w6]) [.d (.str p), .d (.tup (dI (Ls p t j))), .d (.str [t.getD j 0]), .un, .un, .un, .un] rfl rfl ?_ rfl rfl⟩
  generalize Ls p t j = l0 at h2 ⊢
  generalize Ls p t (j + 1) = l1 at h2 ⊢
  unfold b_next_lengths
  refine ev_seq2 (env1 := [.d (.str p), .d (.tup (dI l0)), .d (.str [t.getD j 0]), .own false (.lst []), .un, .un, .un]) (by repeat' (first | exact Nat.zero_le _ | with_reducible exact Dw.ty_str | with_reducible exact Dw.ty_lst | with_reducible exact Dw.lst_eq | with_reducible exact Dw.set_z | with_reducible exact Dw.ret_d | with_reducible exact Dw.ret_own | with_reducible exact Dw.mapd_nn | with_reducible exact Dw.ev_const | with_reducible exact Dw.ev_nil | with_reducible exact Dw.pk_d | with_reducible exact Dw.pk_own | with_reducible exact Dw.pks_nil | with_reducible exact Dw.frz_d | with_reducible exact Dw.frz_own | with_reducible exact Dw.frzs_nil | with_reducible exact Dw.tru_bl | with_reducible exact Dw.ev_skip | with_reducible exact Dw.len_lst | with_reducible exact Dw.len_tup | with_reducible exact Dw.eq_int | with_reducible exact Dw.ne_int | with_reducible exact Dw.eq_str | with_reducible exact Dw.ne_str | with_reducible exact Dw.eq_bl | with_reducible exact Dw.ne_bl | with_reducible exact Dw.lt_int' | with_reducible exact Dw.lt_str' | with_reducible exact Dw.le_int' | with_reducible exact Dw.gt_int' | with_reducible exact Dw.ge_int' | with_reducible exact Dw.add_int' | with_reducible exact Dw.sub_int' | with_reducible exact Dw.neg_int' | with_reducible exact Dw.ord_str | with_reducible exact Dw.int_int | with_reducible exact Dw.int_bl | with_reducible exact Dw.list_lst | with_reducible exact Dw.list_tup | with_reducible exact Dw.tup_lst | with_reducible exact Dw.tup_tup | with_reducible exact Dw.it_lst | with_reducible exact Dw.it_tup | with_reducible exact Dw.it_str | ((with_reducible apply Dw.ev_var); exact rfl) | ((with_reducible apply Dw.ev_varO); exact rfl) | ((with_reducible apply Dw.pk_cv); exact rfl) | ((with_reducible apply Dw.fs_ok); exact rfl) | ((with_reducible apply Dw.gE); exact rfl) | with_reducible apply Dw.ev_two | with_reducible apply Dw.ev_one | with_reducible apply Dw.ev_cons | with_reducible apply Dw.pks_cons | with_reducible apply Dw.ev_callE | with_reducible apply Dw.ev_isi | with_reducible apply Dw.frzs_cons | with_reducible apply Dw.ev_tup | with_reducible apply Dw.ev_lst | with_reducible apply Dw.ev_not | with_reducible apply Dw.ev_met | with_reducible apply Dw.ev_mut | with_reducible apply Dw.ev_ret | with_reducible apply Dw.ev_expr | with_reducible apply Dw.ev_asg | with_reducible apply Dw.ev_args | with_reducible apply Dw.ev_src | with_reducible apply Dw.ev_callD | with_reducible apply Dw.mapd_c | with_reducible apply Dw.mapd_d | with_reducible apply Dw.set_s | with_reducible apply Dw.st_d | with_reducible apply Dw.st_own | with_reducible apply Dw.st_cv | with_reducible apply Dw.frz_cv | ((with_reducible apply Dw.len_str); assumption) | ((with_reducible apply Dw.get_str) <;> assumption) | with_reducible assumption | ((with_reducible show Dw.okI _ = true); exact rfl))) ?_
  refine ev_seq2 (env1 := [.d (.str p), .d (.tup (dI l0)), .d (.str [t.getD j 0]), .own false (.lst []), .d (.bl false), .un, .un]) (by repeat' (first  | with_reducible exact Dw.ty_str | with_reducible exact Dw.ty_lst | with_reducible exact Dw.lst_eq | with_reducible exact Dw.set_z | with_reducible exact Dw.ret_d | with_reducible exact Dw.ret_own | with_reducible exact Dw.mapd_nn | with_reducible exact Dw.ev_const | with_reducible exact Dw.ev_nil | with_reducible exact Dw.pk_d | with_reducible exact Dw.pk_own | with_reducible exact Dw.pks_nil | with_reducible exact Dw.frz_d | with_reducible exact Dw.frz_own | with_reducible exact Dw.frzs_nil | with_reducible exact Dw.tru_bl | with_reducible exact Dw.ev_skip | with_reducible exact Dw.len_lst | with_reducible exact Dw.len_tup | with_reducible exact Dw.eq_int | with_reducible exact Dw.ne_int | with_reducible exact Dw.eq_str | with_reducible exact Dw.ne_str | with_reducible exact Dw.eq_bl | with_reducible exact Dw.ne_bl | with_reducible exact Dw.lt_int' | with_reducible exact Dw.lt_str' | with_reducible exact Dw.le_int' | with_reducible exact Dw.gt_int' | with_reducible exact Dw.ge_int' | with_reducible exact Dw.add_int' | with_reducible exact Dw.sub_int' | with_reducible exact Dw.neg_int' | with_reducible exact Dw.ord_str | with_reducible exact Dw.int_int | with_reducible exact Dw.int_bl | with_reducible exact Dw.list_lst | with_reducible exact Dw.list_tup | with_reducible exact Dw.tup_lst | with_reducible exact Dw.tup_tup | with_reducible exact Dw.it_lst | with_reducible exact Dw.it_tup | with_reducible exact Dw.it_str | ((with_reducible apply Dw.ev_var); exact rfl) | ((with_reducible apply Dw.ev_varO); exact rfl) | ((with_reducible apply Dw.pk_cv); exact rfl) | ((with_reducible apply Dw.fs_ok); exact rfl) | ((with_reducible apply Dw.gE); exact rfl) | with_reducible apply Dw.ev_two | with_reducible apply Dw.ev_one | with_reducible apply Dw.ev_cons | with_reducible apply Dw.pks_cons | with_reducible apply Dw.ev_callE | with_reducible apply Dw.ev_isi | with_reducible apply Dw.frzs_cons | with_reducible apply Dw.ev_tup | with_reducible apply Dw.ev_lst | with_reducible apply Dw.ev_not | with_reducible apply Dw.ev_met | with_reducible apply Dw.ev_mut | with_reducible apply Dw.ev_ret | with_reducible apply Dw.ev_expr | with_reducible apply Dw.ev_asg | with_reducible apply Dw.ev_args | with_reducible apply Dw.ev_src | with_reducible apply Dw.ev_callD | with_reducible apply Dw.mapd_c | with_reducible apply Dw.mapd_d | with_reducible apply Dw.set_s | with_reducible apply Dw.st_d | with_reducible apply Dw.st_own | with_reducible apply Dw.st_cv | with_reducible apply Dw.frz_cv | ((with_reducible apply Dw.len_str); assumption) | ((with_reducible apply Dw.get_str) <;> assumption) | with_reducible assumption | ((with_reducible show Dw.okI _ = true); exact rfl))) ?_
  refine ev_seq2 (env1 := [.d (.str p), .d (.tup (dI l0)), .d (.str [t.getD j 0]), .own false (.lst (dI l1)), .d (.bl b), w5, w6]) ?_ ?_
  · rw [ev_for (xs := enumL 0 (p.map fun c => .str [c])) (env1 := [.d (.str p), .d (.tup (dI l0)), .d (.str [t.getD j 0]), .own false (.lst []), .d (.bl false), .un, .un]) (by
      unfold enumE bindAI
      rw [ev_cons (a := .d (.str p)) (ev_var rfl) ev_nil]
      rfl)]
    exact h2
  · repeat' (first  | with_reducible exact Dw.ty_str | with_reducible exact Dw.ty_lst | with_reducible exact Dw.lst_eq | with_reducible exact Dw.set_z | with_reducible exact Dw.ret_d | with_reducible exact Dw.ret_own | with_reducible exact Dw.mapd_nn | with_reducible exact Dw.ev_const | with_reducible exact Dw.ev_nil | with_reducible exact Dw.pk_d | with_reducible exact Dw.pk_own | with_reducible exact Dw.pks_nil | with_reducible exact Dw.frz_d | with_reducible exact Dw.frz_own | with_reducible exact Dw.frzs_nil | with_reducible exact Dw.tru_bl | with_reducible exact Dw.ev_skip | with_reducible exact Dw.len_lst | with_reducible exact Dw.len_tup | with_reducible exact Dw.eq_int | with_reducible exact Dw.ne_int | with_reducible exact Dw.eq_str | with_reducible exact Dw.ne_str | with_reducible exact Dw.eq_bl | with_reducible exact Dw.ne_bl | with_reducible exact Dw.lt_int' | with_reducible exact Dw.lt_str' | with_reducible exact Dw.le_int' | with_reducible exact Dw.gt_int' | with_reducible exact Dw.ge_int' | with_reducible exact Dw.add_int' | with_reducible exact Dw.sub_int' | with_reducible exact Dw.neg_int' | with_reducible exact Dw.ord_str | with_reducible exact Dw.int_int | with_reducible exact Dw.int_bl | with_reducible exact Dw.list_lst | with_reducible exact Dw.list_tup | with_reducible exact Dw.tup_lst | with_reducible exact Dw.tup_tup | with_reducible exact Dw.it_lst | with_reducible exact Dw.it_tup | with_reducible exact Dw.it_str | ((with_reducible apply Dw.ev_var); exact rfl) | ((with_reducible apply Dw.ev_varO); exact rfl) | ((with_reducible apply Dw.pk_cv); exact rfl) | ((with_reducible apply Dw.fs_ok); exact rfl) | ((with_reducible apply Dw.gE); exact rfl) | with_reducible apply Dw.ev_two | with_reducible apply Dw.ev_one | with_reducible apply Dw.ev_cons | with_reducible apply Dw.pks_cons | with_reducible apply Dw.ev_callE | with_reducible apply Dw.ev_isi | with_reducible apply Dw.frzs_cons | with_reducible apply Dw.ev_tup | with_reducible apply Dw.ev_lst | with_reducible apply Dw.ev_not | with_reducible apply Dw.ev_met | with_reducible apply Dw.ev_mut | with_reducible apply Dw.ev_ret | with_reducible apply Dw.ev_expr | with_reducible apply Dw.ev_asg | with_reducible apply Dw.ev_args | with_reducible apply Dw.ev_src | with_reducible apply Dw.ev_callD | with_reducible apply Dw.mapd_c | with_reducible apply Dw.mapd_d | with_reducible apply Dw.set_s | with_reducible apply Dw.st_d | with_reducible apply Dw.st_own | with_reducible apply Dw.st_cv | with_reducible apply Dw.frz_cv | ((with_reducible apply Dw.len_str); assumption) | ((with_reducible apply Dw.get_str) <;> assumption) | with_reducible assumption | ((with_reducible show Dw.okI _ = true); exact rfl))
theorem filt_le {c : Nat → Bool} {n L : Nat} (hn : n ≤ L) (h : ∀ k, k ≤ L → (c k = true ↔ k ≤ n)) : (List.range (L + 1)).filter c = List.range (n + 1) := by
  rw [show L + 1 = (n + 1) + (L - n) by omega, List.range_add, List.filter_append]
  rw [List.filter_eq_self.mpr fun k hk => by
    rw [List.mem_range] at hk
    exact (h k (by omega)).mpr (by omega)]
  rw [List.filter_eq_nil_iff.mpr fun k hk => by
    obtain ⟨i, hi, rfl⟩ := List.mem_map.mp hk
    rw [List.mem_range] at hi
    intro g
    have := (h _ (by omega)).mp g
    omega]
  exact List.append_nil _
theorem ev_startX {p t : List Nat} (hp : p.length ≤ 900) : ∃ o, m_start_lengths [.d (.str p)] = some (.ok (.d (.tup (dI (Ls p t 0)))) o) := by
  have hs : (100000 : Nat) ≤ sizeLine := by decide
  have hpl : p.length ≤ sizeLine := by omega
  have key : Ls p t 0 = (List.range ((p.takeWhile (· == 42)).length + 1)).map fun i : Nat => (i : Int) := by
    show List.map _ _ = _
    rw [filt_le (c := fun k => Mb p t k 0) (n := (p.takeWhile (· == 42)).length) (L := p.length) (List.takeWhile_sublist _).length_le fun k hk => by rw [M0, tw_spec p k hk]]
  generalize hn : (p.takeWhile (· == 42)).length = n at key
  have hnp : n ≤ p.length := by rw [← hn]; exact (List.takeWhile_sublist _).length_le
  have hcl : (cutTop p [42]).length = p.length - n := by
    unfold cutTop
    rw [conts42, List.length_drop, hn]
  have l1 : textM lstripL (.str p) [.str [42]] = some (.d (.str (cutTop p [42]))) := if_pos hpl
  have hcs : (cutTop p [42]).length ≤ sizeLine := by omega
  have hsub : subD (.int p.length) (.int (cutTop p [42]).length) = some (.d (.int n)) := by
    rw [Dw.sub_int', hcl]
    rw [show (p.length : Int) - ((p.length - n : Nat) : Int) = n by omega]
  rw [key]
  refine ⟨[.d (.str p)], defM_rt (a := .d (.tup (dI ((List.range (n + 1)).map fun i : Nat => (i : Int))))) (env := [.d (.str p), .d (.int n)]) [.d (.str p), .un] rfl rfl ?_ rfl rfl⟩
  unfold b_start_lengths
  refine ev_seq2 (env1 := [.d (.str p), .d (.int n)]) (by repeat' (first | with_reducible exact l1 | with_reducible exact hsub | with_reducible exact Dw.ty_str | with_reducible exact Dw.ty_lst | with_reducible exact Dw.lst_eq | with_reducible exact Dw.set_z | with_reducible exact Dw.ret_d | with_reducible exact Dw.ret_own | with_reducible exact Dw.mapd_nn | with_reducible exact Dw.ev_const | with_reducible exact Dw.ev_nil | with_reducible exact Dw.pk_d | with_reducible exact Dw.pk_own | with_reducible exact Dw.pks_nil | with_reducible exact Dw.frz_d | with_reducible exact Dw.frz_own | with_reducible exact Dw.frzs_nil | with_reducible exact Dw.tru_bl | with_reducible exact Dw.ev_skip | with_reducible exact Dw.len_lst | with_reducible exact Dw.len_tup | with_reducible exact Dw.eq_int | with_reducible exact Dw.ne_int | with_reducible exact Dw.eq_str | with_reducible exact Dw.ne_str | with_reducible exact Dw.eq_bl | with_reducible exact Dw.ne_bl | with_reducible exact Dw.lt_int' | with_reducible exact Dw.lt_str' | with_reducible exact Dw.le_int' | with_reducible exact Dw.gt_int' | with_reducible exact Dw.ge_int' | with_reducible exact Dw.add_int' | with_reducible exact Dw.sub_int' | with_reducible exact Dw.neg_int' | with_reducible exact Dw.ord_str | with_reducible exact Dw.int_int | with_reducible exact Dw.int_bl | with_reducible exact Dw.list_lst | with_reducible exact Dw.list_tup | with_reducible exact Dw.tup_lst | with_reducible exact Dw.tup_tup | with_reducible exact Dw.it_lst | with_reducible exact Dw.it_tup | with_reducible exact Dw.it_str | ((with_reducible apply Dw.ev_var); exact rfl) | ((with_reducible apply Dw.ev_varO); exact rfl) | ((with_reducible apply Dw.pk_cv); exact rfl) | ((with_reducible apply Dw.fs_ok); exact rfl) | ((with_reducible apply Dw.gE); exact rfl) | with_reducible apply Dw.ev_two | with_reducible apply Dw.ev_one | with_reducible apply Dw.ev_cons | with_reducible apply Dw.pks_cons | with_reducible apply Dw.ev_callE | with_reducible apply Dw.ev_isi | with_reducible apply Dw.frzs_cons | with_reducible apply Dw.ev_tup | with_reducible apply Dw.ev_lst | with_reducible apply Dw.ev_not | with_reducible apply Dw.ev_met | with_reducible apply Dw.ev_mut | with_reducible apply Dw.ev_ret | with_reducible apply Dw.ev_expr | with_reducible apply Dw.ev_asg | with_reducible apply Dw.ev_args | with_reducible apply Dw.ev_src | with_reducible apply Dw.ev_callD | with_reducible apply Dw.mapd_c | with_reducible apply Dw.mapd_d | with_reducible apply Dw.set_s | with_reducible apply Dw.st_d | with_reducible apply Dw.st_own | with_reducible apply Dw.st_cv | with_reducible apply Dw.frz_cv | ((with_reducible apply Dw.len_str); assumption) | ((with_reducible apply Dw.get_str) <;> assumption) | with_reducible assumption | ((with_reducible show Dw.okI _ = true); exact rfl))) (ev_ret ?_)
  have e1 : two (op2 addD) (varE 1) (constE (.int 1)) [.d (.str p), .d (.int n)] = some (.ok (.d (.int ((n : Int) + 1))) [.d (.str p), .d (.int n)]) := by repeat' (first  | with_reducible exact Dw.ty_str | with_reducible exact Dw.ty_lst | with_reducible exact Dw.lst_eq | with_reducible exact Dw.set_z | with_reducible exact Dw.ret_d | with_reducible exact Dw.ret_own | with_reducible exact Dw.mapd_nn | with_reducible exact Dw.ev_const | with_reducible exact Dw.ev_nil | with_reducible exact Dw.pk_d | with_reducible exact Dw.pk_own | with_reducible exact Dw.pks_nil | with_reducible exact Dw.frz_d | with_reducible exact Dw.frz_own | with_reducible exact Dw.frzs_nil | with_reducible exact Dw.tru_bl | with_reducible exact Dw.ev_skip | with_reducible exact Dw.len_lst | with_reducible exact Dw.len_tup | with_reducible exact Dw.eq_int | with_reducible exact Dw.ne_int | with_reducible exact Dw.eq_str | with_reducible exact Dw.ne_str | with_reducible exact Dw.eq_bl | with_reducible exact Dw.ne_bl | with_reducible exact Dw.lt_int' | with_reducible exact Dw.lt_str' | with_reducible exact Dw.le_int' | with_reducible exact Dw.gt_int' | with_reducible exact Dw.ge_int' | with_reducible exact Dw.add_int' | with_reducible exact Dw.sub_int' | with_reducible exact Dw.neg_int' | with_reducible exact Dw.ord_str | with_reducible exact Dw.int_int | with_reducible exact Dw.int_bl | with_reducible exact Dw.list_lst | with_reducible exact Dw.list_tup | with_reducible exact Dw.tup_lst | with_reducible exact Dw.tup_tup | with_reducible exact Dw.it_lst | with_reducible exact Dw.it_tup | with_reducible exact Dw.it_str | ((with_reducible apply Dw.ev_var); exact rfl) | ((with_reducible apply Dw.ev_varO); exact rfl) | ((with_reducible apply Dw.pk_cv); exact rfl) | ((with_reducible apply Dw.fs_ok); exact rfl) | ((with_reducible apply Dw.gE); exact rfl) | with_reducible apply Dw.ev_two | with_reducible apply Dw.ev_one | with_reducible apply Dw.ev_cons | with_reducible apply Dw.pks_cons | with_reducible apply Dw.ev_callE | with_reducible apply Dw.ev_isi | with_reducible apply Dw.frzs_cons | with_reducible apply Dw.ev_tup | with_reducible apply Dw.ev_lst | with_reducible apply Dw.ev_not | with_reducible apply Dw.ev_met | with_reducible apply Dw.ev_mut | with_reducible apply Dw.ev_ret | with_reducible apply Dw.ev_expr | with_reducible apply Dw.ev_asg | with_reducible apply Dw.ev_args | with_reducible apply Dw.ev_src | with_reducible apply Dw.ev_callD | with_reducible apply Dw.mapd_c | with_reducible apply Dw.mapd_d | with_reducible apply Dw.set_s | with_reducible apply Dw.st_d | with_reducible apply Dw.st_own | with_reducible apply Dw.st_cv | with_reducible apply Dw.frz_cv | ((with_reducible apply Dw.len_str); assumption) | ((with_reducible apply Dw.get_str) <;> assumption) | with_reducible assumption | ((with_reducible show Dw.okI _ = true); exact rfl))
  unfold rgD
  rw [e1, bindE_ok]
  show (if okP (-(2 ^ 62) ≤ (n : Int) + 1 ∧ (n : Int) + 1 < 2 ^ 62 ∧ ((n : Int) + 1).toNat ≤ 100000) = true then _ else _) = _
  rw [if_pos (okP_iff.mpr ⟨by omega, by omega, by omega⟩)]
  have e2 : ((n : Int) + 1).toNat = n + 1 := by omega
  rw [e2]
  unfold tupRV dI
  rw [List.map_map]
  rfl
theorem nkDs_map {α : Type} {f : α → D} {g : α → NestedKey} : ∀ {xs : List α}, (∀ x ∈ xs, nkD (f x) = some (g x)) → nkDs (xs.map f) = some (xs.map g)
  | [], _ => by rw [List.map_nil, nkDs]; rfl
  | x :: xs, h => by
    rw [List.map_cons, nkDs, h x (List.mem_cons_self ..), Option.bind_some, nkDs_map (xs := xs) fun y hy => h y (List.mem_cons_of_mem _ hy)]
    rfl
theorem map_inj' {α β : Type} {f : α → β} (hf : ∀ a b, f a = f b → a = b) : ∀ {xs ys : List α}, xs.map f = ys.map f → xs = ys
  | [], [], _ => rfl
  | [], _ :: _, h => by cases h
  | _ :: _, [], h => by cases h
  | x :: xs, y :: ys, h => by
    rw [List.map_cons, List.map_cons] at h
    injection h with h1 h2
    rw [hf _ _ h1, map_inj' hf h2]
structure Gd (x : PyData) (d b : Nat) : Prop where
  lay : x.canLay0 = true
  dep : x.depth ≤ d
  sh : x.showable = true
  hd : x.hasDict = false
  lf : x.leavesShort 10 = true
  bk : x.bulk ≤ b
theorem gd_all {d b : Nat} : ∀ xs : List PyData, (∀ x ∈ xs, Gd x d b) → PyData.canLayAll0 xs = true ∧ PyData.depthAll xs ≤ d ∧ PyData.showableAll xs = true ∧ PyData.hasDictAll xs = false ∧ PyData.leavesShortAll 10 xs = true ∧ PyData.bulkAll xs ≤ xs.length * (b + 1)
  | [], _ => ⟨rfl, Nat.zero_le _, rfl, rfl, rfl, Nat.zero_le _⟩
  | x :: xs, h => by
    obtain ⟨a1, a2, a3, a4, a5, a6⟩ := gd_all xs fun y hy => h y (List.mem_cons_of_mem _ hy)
    obtain ⟨b1, b2, b3, b4, b5, b6⟩ := h x (List.mem_cons_self ..)
    refine ⟨by simp [PyData.canLayAll0, a1, b1], by simp only [PyData.depthAll]; omega, by simp [PyData.showableAll, a3, b3], by simp [PyData.hasDictAll, a4, b4], by simp [PyData.leavesShortAll, a5, b5], ?_⟩
    simp only [PyData.bulkAll, List.length_cons, Nat.succ_mul]
    omega
theorem gd_tup {d b n : Nat} {xs : List PyData} (h : ∀ x ∈ xs, Gd x d b) (hn : xs.length ≤ n) : Gd (.tuple xs) (d + 1) (n * (b + 1)) := by
  obtain ⟨a1, a2, a3, a4, a5, a6⟩ := gd_all xs h
  exact ⟨by simp [PyData.canLay0, a1], by simp only [PyData.depth]; omega, by simp [PyData.showable, a3], by simp [PyData.hasDict, a4], by simp [PyData.leavesShort, a5], by simp only [PyData.bulk]; exact Nat.le_trans a6 (Nat.mul_le_mul_right _ hn)⟩
theorem gd_lst {d b n : Nat} {xs : List PyData} (h : ∀ x ∈ xs, Gd x d b) (hn : xs.length ≤ n) : Gd (.list xs) (d + 1) (n * (b + 1)) := by
  obtain ⟨a1, a2, a3, a4, a5, a6⟩ := gd_all xs h
  exact ⟨by simp [PyData.canLay0, a1], by simp only [PyData.depth]; omega, by simp [PyData.showable, a3], by simp [PyData.hasDict, a4], by simp [PyData.leavesShort, a5], by simp only [PyData.bulk]; exact Nat.le_trans a6 (Nat.mul_le_mul_right _ hn)⟩
theorem gd_shp {x : D} {d b : Nat} (h : Gd (py x) d b) (hd : d ≤ 8) : shp x = true := by
  have := h.dep
  simp [shp, SeqAt.shaped, h.lay]
  omega
theorem pys_mem : ∀ (xs : List D) (y : PyData), y ∈ pys xs → ∃ x ∈ xs, y = py x
  | [], _, h => by cases h
  | x :: xs, y, h => by
    have h : y ∈ py x :: pys xs := h
    rcases List.mem_cons.mp h with e | h
    · exact ⟨x, List.mem_cons_self .., e⟩
    · obtain ⟨z, h1, h2⟩ := pys_mem xs y h
      exact ⟨z, List.mem_cons_of_mem _ h1, h2⟩
theorem pys_len : ∀ xs : List D, (pys xs).length = xs.length
  | [] => rfl
  | x :: xs => by show (pys xs).length + 1 = _; rw [pys_len xs]; rfl
abbrev bls (w : List Bool) : D := .tup (w.map .bl)
def kB (w : List Bool) : NestedKey := .tup (w.map fun b => .num (if b = true then 1 else 0))
theorem nk_bls (w : List Bool) : nkD (bls w) = some (kB w) := by
  unfold bls
  rw [nkD, nkDs_map (g := fun b => .num (if b = true then 1 else 0)) fun b _ => by rw [nkD]]
  rfl
theorem kB_inj (a b : List Bool) (h : kB a = kB b) : a = b := by
  unfold kB at h
  injection h with h
  exact map_inj' (fun x y e => by cases x <;> cases y <;> first | rfl | (injection e with e; cases e)) h
theorem eqBs_bl : ∀ a b : List Bool, eqBs (a.map D.bl) (b.map D.bl) = decide (a = b)
  | [], [] => by rw [List.map_nil, eqBs]; rfl
  | [], _ :: _ => by simp [eqBs]
  | _ :: _, [] => by simp [eqBs]
  | x :: a, y :: b => by
    rw [List.map_cons, List.map_cons, eqBs, eqBs_bl a b, eqB, Bool.eq_iff_iff, Bool.and_eq_true, beq_iff_eq, decide_eq_true_eq, decide_eq_true_eq, List.cons.injEq]
theorem gd_bl (b : Bool) : Gd (py (.bl b)) 0 0 := by
  cases b <;> exact ⟨rfl, by simp [py, PyData.depth], rfl, rfl, rfl, by simp [py, PyData.bulk]⟩
theorem gd_bls {a : List Bool} (h : a.length ≤ 20) : Gd (py (.tup (a.map D.bl))) 1 20 := by
  refine gd_tup (n := 20) (d := 0) (b := 0) (fun x hx => ?_) (by rw [pys_len, List.length_map]; exact h)
  obtain ⟨y, hy, rfl⟩ := pys_mem _ _ hx
  obtain ⟨i, hi, rfl⟩ := List.mem_map.mp hy
  exact gd_bl i
end
section
def iL (ns : List Int) : D := .lst (ns.map .int)
theorem b64_of {n : Int} (h1 : 0 ≤ n) (h2 : n < 2147483647) : big64 n = true := okP_iff.mpr ⟨by omega, by omega⟩
theorem b64a : big64 48271 = true := okP_iff.mpr (by decide)
theorem b64b : big64 69621 = true := okP_iff.mpr (by decide)
theorem b64c : big64 16807 = true := okP_iff.mpr (by decide)
theorem b64e : big64 2 = true := okP_iff.mpr (by decide)
theorem atI_nat {α : Type} {xs : List α} {j : Nat} (h : j < xs.length) : L2.atI xs (j : Int) = some xs[j] := by
  unfold L2.atI L2.ixN
  rw [if_pos (by omega), if_pos (by omega), Option.bind_some, Int.toNat_natCast]
  exact List.getElem?_eq_getElem h
theorem atI_mod {xs : List D} (h : 0 < xs.length) (i : Int) : ∃ x, x ∈ xs ∧ L2.atI xs (i % (xs.length : Int)) = some x := by
  have h0 := Int.emod_nonneg i (b := (xs.length : Int)) (by omega)
  have h1 := Int.emod_lt_of_pos i (b := (xs.length : Int)) (by omega)
  obtain ⟨j, hj⟩ := Int.eq_ofNat_of_zero_le h0
  rw [hj]
  exact ⟨xs[j]'(by omega), List.getElem_mem _, atI_nat (by omega)⟩
theorem ev_drw {ns : List Int} (hl : ns.length ≤ 63) {k b : Int} (hb : 0 < b) : wF (m_ulawudraw [.d (iL ns), .d (.int k), .d (.int b)]) (fun u _ => ∃ d, u = .d d ∧ ∃ v : Nat, d = .int v ∧ (v : Int) < b) nX := by
  have fin : ∀ z : Int, ∃ v : Nat, z % b = (v : Int) ∧ (v : Int) < b := fun z => by
    have h0 := Int.emod_nonneg z (b := b) (by omega)
    have h1 := Int.emod_lt_of_pos z hb
    obtain ⟨j, hj⟩ := Int.eq_ofNat_of_zero_le h0
    exact ⟨j, hj, by omega⟩
  refine w_defM rfl (by fail "S") ?_
  unfold b_ulawudraw iL
  have m4 : fdivD (.int k) (.int 4) = some (.d (.int (k / 4))) := fdiv_ok (by decide) (by decide)
  have mk4 : modD (.int k) (.int 4) = some (.d (.int (k % 4))) := mod_ok (by decide)
  cases ns with
  | nil =>
    (repeat' fail "V")
    · intro _
      (repeat' fail "V")
      exact ⟨_, rfl, 0, rfl, hb⟩
    · intro h; cases h
  | cons c0 cs =>
    have hpos : 0 < ((c0 :: cs).map D.int).length := by rw [List.length_map]; exact Nat.succ_pos _
    obtain ⟨x, hx, hat⟩ := atI_mod hpos (k / 4)
    obtain ⟨c, _, rfl⟩ := List.mem_map.mp hx
    generalize hL : (c0 :: cs).map D.int = L at *
    have hll : L.length ≤ 63 := by rw [← hL, List.length_map]; exact hl
    have g1 : getD (.lst L) (.int (k / 4 % (L.length : Int))) = some (.d (.int c)) := get_lst hat
    have m5 : modD (.int (k / 4)) (.int (L.length : Int)) = some (.d (.int (k / 4 % (L.length : Int)))) := mod_ok (by omega)
    refine w_seqP2 (fun e => e = [.d (.lst L), .d (.int k), .d (.int b), .d (.int c), .un, .un]) ?_ ?_
    · (repeat' fail "V")
      · intro h
        exfalso
        rw [beq_iff_eq] at h
        omega
      · intro _
        (repeat' fail "V")
        rfl
    rintro _ rfl
    have hb64 : ∀ n : Int, big64 (n % 2147483647) = true := fun n => b64_of (Int.emod_nonneg _ (by decide)) (Int.emod_lt_of_pos _ (by decide))
    have hb65 : ∀ n : Int, big64 (n % 998244353) = true := fun n => b64_of (Int.emod_nonneg _ (by decide)) (by have := Int.emod_lt_of_pos n (b := 998244353) (by decide); omega)
    have q1 : ∀ z : Int, mulD (.int z) (.int 48271) = some (.d (.int (z * 48271))) := fun z => mul_r b64a
    have q2 : ∀ z : Int, mulD (.int z) (.int 69621) = some (.d (.int (z * 69621))) := fun z => mul_r b64b
    have q3 : ∀ z : Int, mulD (.int 16807) (.int z) = some (.d (.int (16807 * z))) := fun z => mul_l b64c
    have q4 : ∀ z : Int, mulD (.int 48271) (.int z) = some (.d (.int (48271 * z))) := fun z => mul_l b64a
    refine w_seqP (fun e => e = [.d (.lst L), .d (.int k), .d (.int b), .d (.int c), .un, .un]) ?_ ?_
    · have p18 := pow_18
      (repeat' fail "V")
      · intro h
        (repeat' fail "V")
        · intro h2
          have hk0 := Int.emod_nonneg k (b := 4) (by decide)
          have hk1 := Int.emod_lt_of_pos k (b := 4) (by decide)
          obtain ⟨j, hj⟩ := Int.eq_ofNat_of_zero_le hk0
          have rg : rng1 [.int (k % 4)] = some ((List.range j).map fun i => .int (i : Nat)) := by rw [hj]; exact rng1_nat (by omega)
          refine w_seqP (fun e => ∃ (z : Int) (w : SV), e = [.d (.lst L), .d (.int k), .d (.int b), .d (.int z), .un, w]) ?_ ?_
          · (repeat' fail "V")
            refine w_loopR (fun _ e => ∃ (z : Int) (w : SV), freeSlot (some w) = true ∧ e = [.d (.lst L), .d (.int k), .d (.int b), .d (.int z), .un, w]) ⟨c, .un, rfl, rfl⟩ ?_ ?_
            · rintro i _ hi ⟨z, w, hw, rfl⟩
              refine ⟨[.d (.lst L), .d (.int k), .d (.int b), .d (.int z), .un, .d (.int (i : Nat))], put_nm hw rfl, ?_⟩
              unfold l_ulawudraw_1
              have m6 : fdivD (.int z) (.int 1000) = some (.d (.int (z / 1000))) := fdiv_ok (by decide) (by decide)
              (repeat' fail "V")
              exact ⟨_, _, rfl, rfl⟩
            · rintro _ ⟨z, w, _, rfl⟩
              exact ⟨z, w, rfl⟩
          · rintro _ ⟨z, w, rfl⟩
            have m6 : modD (.int z) (.int 1000) = some (.d (.int (z % 1000))) := mod_ok (by decide)
            have m7 : modD (.int (z % 1000)) (.int b) = some (.d (.int (z % 1000 % b))) := mod_ok hb
            (repeat' fail "V")
            obtain ⟨v, hv, hvb⟩ := fin (z % 1000)
            exact ⟨_, rfl, v, by rw [hv], hvb⟩
        · intro h2
          (repeat' fail "V")
          rfl
      · intro h
        (repeat' fail "V")
        rfl
    rintro _ rfl
    refine w_seqP (fun e => e = [.d (.lst L), .d (.int k), .d (.int b), .d (.int c), .d (.int ((c * 48271 + k * 69621 + 12345) % 2147483647)), .un]) ?_ ?_
    · have a1 := q1 c; have a2 := q2 k
      have m6 : modD (.int (c * 48271 + k * 69621 + 12345)) (.int 2147483647) = some (.d (.int ((c * 48271 + k * 69621 + 12345) % 2147483647))) := mod_ok (by decide)
      (repeat' fail "V")
      rfl
    rintro _ rfl
    have hn := hb64 (c * 48271 + k * 69621 + 12345)
    generalize (c * 48271 + k * 69621 + 12345) % 2147483647 = n at hn
    refine w_seqP (fun e => e = [.d (.lst L), .d (.int k), .d (.int b), .d (.int c), .d (.int ((n * n + 16807 * k + 7) % 998244353)), .un]) ?_ ?_
    · have a1 : mulD (.int n) (.int n) = some (.d (.int (n * n))) := mul_l hn
      have a2 := q3 k
      have m6 : modD (.int (n * n + 16807 * k + 7)) (.int 998244353) = some (.d (.int ((n * n + 16807 * k + 7) % 998244353))) := mod_ok (by decide)
      (repeat' fail "V")
      rfl
    rintro _ rfl
    have hn := hb65 (n * n + 16807 * k + 7)
    generalize (n * n + 16807 * k + 7) % 998244353 = n2 at hn
    refine w_seqP (fun e => e = [.d (.lst L), .d (.int k), .d (.int b), .d (.int c), .d (.int ((n2 * n2 + 48271 * k + c) % 2147483629)), .un]) ?_ ?_
    · have a1 : mulD (.int n2) (.int n2) = some (.d (.int (n2 * n2))) := mul_l hn
      have a2 := q4 k
      have m6 : modD (.int (n2 * n2 + 48271 * k + c)) (.int 2147483629) = some (.d (.int ((n2 * n2 + 48271 * k + c) % 2147483629))) := mod_ok (by decide)
      (repeat' fail "V")
      rfl
    rintro _ rfl
    generalize (n2 * n2 + 48271 * k + c) % 2147483629 = n3
    have m6 : fdivD (.int n3) (.int 13) = some (.d (.int (n3 / 13))) := fdiv_ok (by decide) (by decide)
    have m7 : modD (.int (n3 / 13)) (.int b) = some (.d (.int (n3 / 13 % b))) := mod_ok hb
    (repeat' fail "V")
    obtain ⟨v, hv, hvb⟩ := fin (n3 / 13)
    exact ⟨_, rfl, v, by rw [hv], hvb⟩
theorem wC_drw {ns : List Int} {k b : Int} {env : Sl} {Q : QE} {E : QX} (hl : ns.length ≤ 63) (hb : 0 < b) (q : ∀ v : Nat, (v : Int) < b → Q (.d (.int (v : Int))) env) : wC (m_ulawudraw [.d (iL ns), .d (.int k), .d (.int b)]) env Q E :=
  wC_d (ev_drw hl hb) fun d h => by
    obtain ⟨v, rfl, hv⟩ := h
    exact q v hv
end
section
def hvals : List D := [.non, .tup [.str [111, 119, 110], .int 0], .tup [.str [111, 119, 110], .int 1], .tup [.str [111, 119, 110], .int 5], .tup [.str [111, 119, 110], .int 10],
  .int 0, .int 1, .int 2, .int 7, .int 12, .int (-1), .int (-2), .int (-11), .str [], .str [97], .str [98], .str [97, 97], .str [97, 98], .str [98, 98], .str [97, 98, 99]]
theorem getL {L : List D} {v : Nat} (h : v < L.length) : ∃ x ∈ L, getD (.lst L) (.int (v : Int)) = some (.d x) := ⟨L[v], List.getElem_mem _, get_lst (atI_nat h)⟩
theorem ev_some {ns : List Int} (hl : ns.length ≤ 63) {k : Int} : wF (m_ulawusome [.d (iL ns), .d (.int k)]) (fun u _ => ∃ d, u = .d d ∧ d ∈ hvals) nX := by
  refine w_defM rfl (by fail "S") ?_
  unfold b_ulawusome
  refine w_seqP (fun e => ∃ v : Nat, (v : Int) < 9 ∧ e = [.d (iL ns), .d (.int k), .d (.int v)]) ?_ ?_
  · (repeat' fail "V")
    refine wC_drw hl (by decide) fun v hv => ?_
    (repeat' fail "V")
    exact ⟨v, hv, rfl⟩
  rintro _ ⟨v, hv, rfl⟩
  (repeat' fail "V")
  · intro _; (repeat' fail "V")
    exact ⟨_, rfl, by simp [hvals]⟩
  intro _; (repeat' fail "V")
  · intro _; (repeat' fail "V")
    refine wC_drw hl (by decide) fun u hu => ?_
    obtain ⟨x, hx, g⟩ := getL (L := [.int 0, .int 1, .int 5, .int 10]) (v := u) (by show u < 4; omega)
    (repeat' fail "V")
    refine ⟨_, rfl, ?_⟩
    simp only [List.mem_cons, List.not_mem_nil, or_false] at hx
    rcases hx with rfl | rfl | rfl | rfl <;> simp [hvals]
  intro _; (repeat' fail "V")
  · intro _; (repeat' fail "V")
    refine wC_drw hl (by decide) fun u hu => ?_
    obtain ⟨x, hx, g⟩ := getL (L := [.int 0, .int 1, .int 5, .int 10]) (v := u) (by show u < 4; omega)
    (repeat' fail "V")
    refine ⟨_, rfl, ?_⟩
    simp only [List.mem_cons, List.not_mem_nil, or_false] at hx
    rcases hx with rfl | rfl | rfl | rfl <;> simp [hvals]
  intro _; (repeat' fail "V")
  · intro _; (repeat' fail "V")
    refine wC_drw hl (by decide) fun u hu => ?_
    obtain ⟨x, hx, g⟩ := getL (L := [.int 0, .int 1, .int 2, .int 7, .int 12, .int (-1), .int (-2), .int (-11)]) (v := u) (by show u < 8; omega)
    (repeat' fail "V")
    refine ⟨_, rfl, ?_⟩
    simp only [List.mem_cons, List.not_mem_nil, or_false] at hx
    rcases hx with rfl | rfl | rfl | rfl | rfl | rfl | rfl | rfl <;> simp [hvals]
  intro _; (repeat' fail "V")
  refine wC_drw hl (by decide) fun u hu => ?_
  obtain ⟨x, hx, g⟩ := getL (L := [.str [], .str [97], .str [98], .str [97, 97], .str [97, 98], .str [98, 98], .str [97, 98, 99]]) (v := u) (by show u < 7; omega)
  (repeat' fail "V")
  refine ⟨_, rfl, ?_⟩
  simp only [List.mem_cons, List.not_mem_nil, or_false] at hx
  rcases hx with rfl | rfl | rfl | rfl | rfl | rfl | rfl <;> simp [hvals]
end
section
theorem wC_some {ns : List Int} {k : Int} {env : Sl} {Q : QE} {E : QX} (hl : ns.length ≤ 63) (q : ∀ d, d ∈ hvals → Q (.d d) env) : wC (m_ulawusome [.d (iL ns), .d (.int k)]) env Q E := wC_d (ev_some hl) q
structure Pr where
  a : List Nat
  x : List D
  b : List Nat
  y : List D
def prD (p : Pr) : D := .tup [.tup [.str p.a, .lst p.x], .tup [.str p.b, .lst p.y]]
def ab (s : List Nat) : Prop := s = [97] ∨ s = [98]
structure GP (l r : Nat) (p : Pr) : Prop where
  a : ab p.a
  b : ab p.b
  xl : p.x.length = l
  yl : p.y.length = r
  x : ∀ d ∈ p.x, d ∈ hvals
  y : ∀ d ∈ p.y, d ∈ hvals
theorem getAB {v : Nat} (h : (v : Int) < 2) : ∃ s, ab s ∧ getD (.lst [.str [97], .str [98]]) (.int (v : Int)) = some (.d (.str s)) := by
  obtain ⟨x, hx, g⟩ := getL (L := [.str [97], .str [98]]) (v := v) (by show v < 2; omega)
  simp only [List.mem_cons, List.not_mem_nil, or_false] at hx
  rcases hx with rfl | rfl
  · exact ⟨_, .inl rfl, g⟩
  · exact ⟨_, .inr rfl, g⟩
theorem ev_pair {ns : List Int} (hl : ns.length ≤ 63) {k : Int} {l r : Nat} (h2l : l < 4) (h2r : r < 4) : wF (m_ulawupair [.d (iL ns), .d (.int k), .d (.int (l : Int)), .d (.int (r : Int))]) (fun u _ => ∃ d, u = .d d ∧ ∃ p, GP l r p ∧ d = prD p) nX := by
  refine w_defM rfl (by fail "S") ?_
  unfold b_ulawupair
  have rl : rng1 [.int (l : Int)] = some ((List.range l).map fun i => .int (i : Nat)) := rng1_nat (by omega)
  have rr : rng1 [.int (r : Int)] = some ((List.range r).map fun i => .int (i : Nat)) := rng1_nat (by omega)
  have m2 : ∀ z : Int, mulD (.int 2) (.int z) = some (.d (.int (2 * z))) := fun z => mul_l b64e
  refine w_seqP (fun e => ∃ x : List D, x.length = l ∧ (∀ d ∈ x, d ∈ hvals) ∧ e = [.d (iL ns), .d (.int k), .d (.int (l : Int)), .d (.int (r : Int)), .own false (.lst x), .un, .un]) ?_ ?_
  · obtain ⟨ys, e', c1, ⟨h1, rfl⟩, c3⟩ := w_compI (vs := [6]) (tg := .nm 6) (fe := e_ulawupair_1) (xs := (List.range l).map fun i => .int (i : Nat)) (e0 := [.d (iL ns), .d (.int k), .d (.int (l : Int)), .d (.int (r : Int)), .un, .un, .un])
      (fun acc e => (∀ d ∈ acc, d ∈ hvals) ∧ e = [.d (iL ns), .d (.int k), .d (.int (l : Int)), .d (.int (r : Int)), .un, .un, .un]) (by rw [List.length_map, List.length_range]; omega) ⟨(fun _ h => by cases h), rfl⟩ (by
        rintro x acc e hx hlt ⟨h1, rfl⟩
        obtain ⟨i, _, rfl⟩ := List.mem_map.mp hx
        refine ⟨[.d (iL ns), .d (.int k), .d (.int (l : Int)), .d (.int (r : Int)), .un, .un, .d (.int (i : Nat))], by fail "S", ?_⟩
        unfold e_ulawupair_1
        have a1 := m2 i
        (repeat' fail "V")
        refine wC_some hl fun d hd => ?_
        refine ⟨_, _, rfl, fun z hz => ?_, rfl⟩
        rcases List.mem_append.mp hz with g | g
        · exact h1 z g
        · rw [List.mem_singleton] at g; subst g; exact hd)
    have yl : ys.length = l := by simpa using c3
    (repeat' fail "V")
    refine w_comp1 (env2 := [.d (iL ns), .d (.int k), .d (.int (l : Int)), .d (.int (r : Int)), .un, .un, .un]) c1 rfl ?_
    (repeat' fail "V")
    exact ⟨ys, yl, h1, rfl⟩
  rintro _ ⟨x, xl, hx, rfl⟩
  refine w_seqP (fun e => ∃ y : List D, y.length = r ∧ (∀ d ∈ y, d ∈ hvals) ∧ e = [.d (iL ns), .d (.int k), .d (.int (l : Int)), .d (.int (r : Int)), .own false (.lst x), .own false (.lst y), .un]) ?_ ?_
  · obtain ⟨ys, e', c1, ⟨h1, rfl⟩, c3⟩ := w_compI (vs := [6]) (tg := .nm 6) (fe := e_ulawupair_2) (xs := (List.range r).map fun i => .int (i : Nat)) (e0 := [.d (iL ns), .d (.int k), .d (.int (l : Int)), .d (.int (r : Int)), .own false (.lst x), .un, .un])
      (fun acc e => (∀ d ∈ acc, d ∈ hvals) ∧ e = [.d (iL ns), .d (.int k), .d (.int (l : Int)), .d (.int (r : Int)), .own false (.lst x), .un, .un]) (by rw [List.length_map, List.length_range]; omega) ⟨(fun _ h => by cases h), rfl⟩ (by
        rintro z acc e hz hlt ⟨h1, rfl⟩
        obtain ⟨i, _, rfl⟩ := List.mem_map.mp hz
        refine ⟨[.d (iL ns), .d (.int k), .d (.int (l : Int)), .d (.int (r : Int)), .own false (.lst x), .un, .d (.int (i : Nat))], by fail "S", ?_⟩
        unfold e_ulawupair_2
        have a1 := m2 i
        (repeat' fail "V")
        refine wC_some hl fun d hd => ?_
        refine ⟨_, _, rfl, fun z hz => ?_, rfl⟩
        rcases List.mem_append.mp hz with g | g
        · exact h1 z g
        · rw [List.mem_singleton] at g; subst g; exact hd)
    have yl : ys.length = r := by simpa using c3
    (repeat' fail "V")
    refine w_comp1 (env2 := [.d (iL ns), .d (.int k), .d (.int (l : Int)), .d (.int (r : Int)), .own false (.lst x), .un, .un]) c1 rfl ?_
    (repeat' fail "V")
    exact ⟨ys, yl, h1, rfl⟩
  rintro _ ⟨y, yl, hy, rfl⟩
  (repeat' fail "V")
  refine wC_drw hl (by decide) fun u hu => ?_
  obtain ⟨s, hs, g⟩ := getAB hu
  (repeat' fail "V")
  refine wC_drw hl (by decide) fun u2 hu2 => ?_
  obtain ⟨s2, hs2, g2⟩ := getAB hu2
  (repeat' fail "V")
  exact ⟨_, rfl, ⟨s, x, s2, y⟩, ⟨hs, hs2, xl, yl, hx, hy⟩, rfl⟩
theorem p0 {p : Pr} : getD (prD p) (.int 0) = some (.d (.tup [.str p.a, .lst p.x])) := get_tup rfl
theorem p1 {p : Pr} : getD (prD p) (.int 1) = some (.d (.tup [.str p.b, .lst p.y])) := get_tup rfl
theorem p00 {p : Pr} : getD (.tup [.str p.a, .lst p.x]) (.int 0) = some (.d (.str p.a)) := get_tup rfl
theorem p01 {p : Pr} : getD (.tup [.str p.a, .lst p.x]) (.int 1) = some (.d (.lst p.x)) := get_tup rfl
theorem p10 {p : Pr} : getD (.tup [.str p.b, .lst p.y]) (.int 0) = some (.d (.str p.b)) := get_tup rfl
theorem p11 {p : Pr} : getD (.tup [.str p.b, .lst p.y]) (.int 1) = some (.d (.lst p.y)) := get_tup rfl
theorem ev_copy {p : Pr} : ∃ o, m_ulawucopy [.d (prD p)] = some (.ok (.d (prD p)) o) := by
  have : wF (m_ulawucopy [.d (prD p)]) (fun u _ => u = .d (prD p)) nX := by
    refine w_defM rfl (by fail "S") ?_
    unfold b_ulawucopy
    have a1 := p0 (p := p); have a2 := p1 (p := p); have a3 := p00 (p := p); have a4 := p01 (p := p); have a5 := p10 (p := p); have a6 := p11 (p := p)
    (repeat' fail "V")
    rfl
  match hm : m_ulawucopy [.d (prD p)], this with
  | some (.ok u o), h => exact ⟨o, by rw [show u = _ from h]⟩
def MbF (p t : List Nat) : Nat → Nat → Nat → Bool
  | 0, _, _ => false
  | _ + 1, 0, 0 => true
  | _ + 1, 0, _ + 1 => false
  | n + 1, k + 1, 0 => (p.getD k 0 == 42) && MbF p t n k 0
  | n + 1, k + 1, j + 1 => if (p.getD k 0 == 42) = true then MbF p t n k (j + 1) || MbF p t n (k + 1) j else MbF p t n k j && (p.getD k 0 == 63 || p.getD k 0 == t.getD j 0)
theorem MbF_eq {p t : List Nat} : ∀ (n k j : Nat), k + j < n → MbF p t n k j = Mb p t k j
  | 0, k, j, h => by omega
  | n + 1, 0, 0, _ => by rw [MbF, Mb]
  | n + 1, 0, j + 1, _ => by rw [MbF, Mb]
  | n + 1, k + 1, 0, h => by rw [MbF, Mb, MbF_eq n k 0 (by omega)]
  | n + 1, k + 1, j + 1, h => by rw [MbF, Mb, MbF_eq n k (j + 1) (by omega), MbF_eq n (k + 1) j (by omega), MbF_eq n k j (by omega)]
def clB (ps : List (List Nat)) (t : List Nat) : List Bool := ps.map fun p => MbF p t (p.length + t.length + 1) p.length t.length
abbrev tt := true
abbrev ff := false
def mw : List (List (List Nat) × List (List Bool)) := [([], [[]]), ([[97]], [[tt], [ff]]), ([[97], []], [[ff, tt], [tt, ff], [ff, ff]]), ([[97], [], [97, 42]], [[ff, tt, ff], [tt, ff, tt], [ff, ff, ff], [ff, ff, tt]]),
  ([[97], [], [97, 42], [63, 98, 42]], [[ff, tt, ff, ff], [tt, ff, tt, ff], [ff, ff, ff, ff], [ff, ff, ff, tt], [ff, ff, tt, ff], [ff, ff, tt, tt]])]
def menu4 : List (List Nat) := [[97], [], [97, 42], [63, 98, 42]]
def hts : List (List Nat) := [[], [97], [98], [97, 97], [97, 98], [98, 98], [97, 98, 99]]
def h8 : List Nat := [97, 98, 99, 100, 101, 102, 103, 104]
def T81 : List (List Nat) := [] :: (h8.map fun c => [c]) ++ (h8.flatMap fun a => h8.map fun b => [a, b]) ++ h8.map fun c => [97, 98, c]
theorem chk_ok : (mw.all fun m => decide (m.1.length ≤ 4) && m.1.all fun p => decide (p ∈ menu4)) = true := by decide +kernel
theorem ok4 : ∀ p ∈ menu4, p.length ≤ 3 ∧ okP8 p := by
  intro p hp
  simp only [menu4, List.mem_cons, List.not_mem_nil, or_false] at hp
  rcases hp with rfl | rfl | rfl | rfl <;> refine ⟨by decide, by decide, fun c hc => ?_⟩ <;> simp only [List.mem_cons, List.not_mem_nil, or_false] at hc
  · subst hc; exact .inl (by decide)
  · rcases hc with rfl | rfl
    · exact .inl (by decide)
    · exact .inr (.inr rfl)
  · rcases hc with rfl | rfl | rfl
    · exact .inr (.inl rfl)
    · exact .inl (by decide)
    · exact .inr (.inr rfl)
theorem m_ok {m : List (List Nat) × List (List Bool)} (hm : m ∈ mw) : m.1.length ≤ 4 ∧ ∀ p ∈ m.1, p ∈ menu4 := by
  have := List.all_eq_true.mp chk_ok m hm
  rw [Bool.and_eq_true] at this
  exact ⟨of_decide_eq_true this.1, fun p hp => of_decide_eq_true (List.all_eq_true.mp this.2 p hp)⟩
end
section
theorem rng2_nat {a b : Nat} (h : a ≤ b) (hb : b ≤ 1000000) : rng2 [.int (a : Nat), .int (b : Nat)] = some ((List.range (b - a)).map fun i => .int ((a + i : Nat) : Int)) := by
  show (if okP _ then _ else _) = _
  rw [if_pos (okP_iff.mpr ⟨⟨⟨by omega, by omega⟩, by omega⟩, by omega⟩)]
  rw [show ((b : Int) - (a : Int)).toNat = b - a by omega]
  rfl
def dN (L : List Nat) : List D := L.map fun n : Nat => D.int (n : Int)
theorem dN_len {L : List Nat} : (dN L).length = L.length := List.length_map ..
theorem dN_dI (L : List Nat) : dN L = dI (L.map fun n : Nat => (n : Int)) := by
  unfold dN dI
  rw [List.map_map]; rfl
theorem cast_mem {z : Nat} {L : List Nat} : ((z : Int) ∈ L.map fun n : Nat => (n : Int)) ↔ z ∈ L := by
  constructor
  · intro h
    obtain ⟨x, hx, e⟩ := List.mem_map.mp h
    have : x = z := by omega
    exact this ▸ hx
  · exact fun h => List.mem_map.mpr ⟨z, h, rfl⟩
theorem in_N {z : Nat} {L : List Nat} : inG (.int (z : Int)) (.lst (dN L)) = some (.d (.bl (decide (z ∈ L)))) := by
  rw [dN_dI, in_lstI]
  congr 3
  exact decide_eq_decide.mpr cast_mem
theorem nin_N {z : Nat} {L : List Nat} : notInG (.int (z : Int)) (.lst (dN L)) = some (.d (.bl (!decide (z ∈ L)))) := notInG_of in_N
def stp (t : List Nat) (c : Nat) (L : List Nat) (q : Nat) : List Nat :=
  if c = 42 then L ++ ((List.range (t.length + 1 - q)).filter fun i => !decide (q + i ∈ L)).map fun i => q + i
  else if q < t.length ∧ (c = 63 ∨ t.getD q 0 = c) then L ++ [q + 1] else L
def run (t : List Nat) (p : List Nat) : List Nat := p.foldl (fun ps c => ps.foldl (stp t c) []) [0]
theorem stp_len {t : List Nat} {c : Nat} {L : List Nat} {q : Nat} : (stp t c L q).length ≤ L.length + (t.length + 1) := by
  unfold stp
  split
  · rw [List.length_append, List.length_map]
    have := List.length_filter_le (fun i => !decide (q + i ∈ L)) (List.range (t.length + 1 - q))
    rw [List.length_range] at this
    omega
  · split
    · rw [List.length_append]; simp
    · omega
theorem run_len {t : List Nat} {c : Nat} : ∀ (ps L : List Nat), (ps.foldl (stp t c) L).length ≤ L.length + ps.length * (t.length + 1)
  | [], L => by simp
  | q :: ps, L => by
    have h1 := run_len (t := t) (c := c) ps (stp t c L q)
    have h2 := stp_len (t := t) (c := c) (L := L) (q := q)
    rw [List.foldl_cons, List.length_cons, Nat.add_mul]
    omega
theorem bq_one {c d : Nat} : ([c] == [d]) = decide (c = d) := by
  rw [one_eq]
  by_cases h : c = d
  · subst h; simp
  · rw [decide_eq_false h]; simp [h]
theorem eq_one {c d : Nat} : eqD (.str [c]) (.str [d]) = some (.d (.bl (decide (c = d)))) := by rw [Dw.eq_str, bq_one]
theorem ne_one {c d : Nat} : neD (.str [c]) (.str [d]) = some (.d (.bl (!decide (c = d)))) := by rw [Dw.ne_str, bq_one]
theorem lm_turn {p t : List Nat} {c q : Nat} {s2 : SV} {L : List Nat} {R : QE} {B : Sl → Prop} {Ct : Sl → Prop} {E : QX} (hn : t.length ≤ 100) (hL : L.length ≤ 5000) (hq : q ≤ t.length) :
    wS l_ulawumatches_2 [.d (.str p), .d (.str t), s2, .d (.str [c]), .own false (.lst (dN L)), .d (.int (q : Int)), .un] (fun e => e = [.d (.str p), .d (.str t), s2, .d (.str [c]), .own false (.lst (dN (stp t c L q))), .d (.int (q : Int)), .un]) ⟨R, B, Ct, E⟩ := by
  unfold l_ulawumatches_2
  have e1 : eqD (.str [c]) (.str [42]) = some (.d (.bl (decide (c = 42)))) := eq_one
  have e2 : neD (.str [c]) (.str [42]) = some (.d (.bl (!decide (c = 42)))) := ne_one
  have e3 : eqD (.str [c]) (.str [63]) = some (.d (.bl (decide (c = 63)))) := eq_one
  have ln : lenD [.str t] = some (.d (.int (t.length : Int))) := Dw.len_str (Nat.le_trans hn (by decide))
  have lt : ltG (.int (q : Int)) (.int (t.length : Int)) = some (.d (.bl (decide (q < t.length)))) := by
    show some (RV.d (.bl (decide _))) = _
    congr 3
    exact decide_eq_decide.mpr (by omega)
  by_cases h42 : c = 42
  · subst h42
    have ad : addD (.int (t.length : Int)) (.int 1) = some (.d (.int ((t.length + 1 : Nat) : Int))) := rfl
    have rg := rng2_nat (a := q) (b := t.length + 1) (by omega) (by omega)
    have cmp := w_compF (vs := [6]) (tg := .nm 6) (fc := two (op2 notInG) (varE 6) (varE 4)) (fe := e_ulawumatches_1) (d := fun i : Nat => D.int ((q + i : Nat) : Int)) (g := fun i : Nat => D.int ((q + i : Nat) : Int)) (p := fun i => !decide (q + i ∈ L)) (l := List.range (t.length + 1 - q))
      (e0 := [.d (.str p), .d (.str t), s2, .d (.str [42]), .own false (.lst (dN L)), .d (.int (q : Int)), .un]) (by rw [List.length_range]; omega) (fun i hi => by
        refine ⟨[.d (.str p), .d (.str t), s2, .d (.str [42]), .own false (.lst (dN L)), .d (.int (q : Int)), .d (.int ((q + i : Nat) : Int))], put_nm rfl rfl, ?_⟩
        have ni := nin_N (z := q + i) (L := L)
        generalize (((q + i : Nat) : Int)) = z at *
        (repeat' fail "V")
        refine ⟨rfl, fun _ => ?_, fun _ => rfl⟩
        unfold e_ulawumatches_1
        (repeat' fail "V")
        exact ⟨_, rfl, rfl⟩)
    have ex : dN (stp t 42 L q) = dN L ++ ((List.range (t.length + 1 - q)).filter fun i => !decide (q + i ∈ L)).map fun i : Nat => D.int ((q + i : Nat) : Int) := by
      unfold stp dN
      rw [if_pos rfl, List.map_append, List.map_map]
      rfl
    have al : addD (.lst (dN L)) (.lst (((List.range (t.length + 1 - q)).filter fun i => !decide (q + i ∈ L)).map fun i : Nat => D.int ((q + i : Nat) : Int))) = some (.own (.lst (dN (stp t 42 L q)))) := by
      rw [ex]
      have := List.length_filter_le (fun i => !decide (q + i ∈ L)) (List.range (t.length + 1 - q))
      rw [List.length_range] at this
      have hs : (100000 : Nat) ≤ sizeLine := by decide
      exact if_pos (by rw [dN_len, List.length_map]; omega)
    generalize (((List.range (t.length + 1 - q)).filter fun i => !decide (q + i ∈ L)).map fun i : Nat => D.int ((q + i : Nat) : Int)) = M at *
    generalize ((List.range (t.length + 1 - q)).map fun i : Nat => D.int ((q + i : Nat) : Int)) = RG at *
    (repeat' fail "V")
    · intro _
      (repeat' fail "V")
      refine w_comp1 (env2 := [.d (.str p), .d (.str t), s2, .d (.str [42]), .own false (.lst (dN L)), .d (.int (q : Int)), .un]) cmp rfl ?_
      (repeat' fail "V")
      · intro h; cases h
      · intro _
        (repeat' fail "V")
        rfl
    · intro h; cases h
  · have st : stp t c L q = if q < t.length ∧ (c = 63 ∨ t.getD q 0 = c) then L ++ [q + 1] else L := if_neg h42
    have f1 : decide (c = 42) = false := decide_eq_false h42
    rw [f1] at e1 e2
    have app : appU (dN L) [.int ((q : Int) + 1)] = some (.non, dN L ++ [.int ((q : Int) + 1)]) := Dw.app_ok (by rw [dN_len]; omega)
    have apx : dN L ++ [.int ((q : Int) + 1)] = dN (L ++ [q + 1]) := by unfold dN; rw [List.map_append]; rfl
    rw [apx] at app
    have gt : q < t.length → getD (.str t) (.int (q : Int)) = some (.d (.str [t.getD q 0])) := fun h => get_str (Nat.le_trans hn (by decide)) (L2.atI_nat (by rw [List.getElem?_eq_getElem h, List.getD_eq_getElem?_getD, List.getElem?_eq_getElem h]; rfl))
    have eqt : eqD (.str [t.getD q 0]) (.str [c]) = some (.d (.bl (decide (t.getD q 0 = c)))) := eq_one
    rw [st]
    by_cases hlt : q < t.length
    · have gt := gt hlt
      rw [decide_eq_true hlt] at lt
      by_cases h63 : c = 63
      · rw [if_pos ⟨hlt, .inl h63⟩]
        rw [decide_eq_true h63] at e3
        (repeat' fail "V")
        rfl
      · rw [decide_eq_false h63] at e3
        by_cases hc : t.getD q 0 = c
        · rw [if_pos ⟨hlt, .inr hc⟩]
          rw [decide_eq_true hc] at eqt
          (repeat' fail "V")
          rfl
        · rw [if_neg (fun z => z.2.elim h63 hc)]
          rw [decide_eq_false hc] at eqt
          (repeat' fail "V")
          rfl
    · rw [decide_eq_false hlt] at lt
      rw [if_neg (fun z => hlt z.1)]
      (repeat' fail "V")
      rfl
def okR (t p : List Nat) : Bool := (List.range (p.length + 1)).all fun k => decide ((run t (p.take k)).length ≤ 10) && (run t (p.take k)).all fun q => decide (q ≤ t.length)
theorem okR_at {t p pre suf : List Nat} (h : okR t p = true) (e : p = pre ++ suf) : (run t pre).length ≤ 10 ∧ ∀ q ∈ run t pre, q ≤ t.length := by
  have := List.all_eq_true.mp h pre.length (List.mem_range.mpr (by rw [e, List.length_append]; omega))
  rw [e, List.take_left, Bool.and_eq_true] at this
  exact ⟨of_decide_eq_true this.1, fun q hq => of_decide_eq_true (List.all_eq_true.mp this.2 q hq)⟩
theorem run_snoc {t pre : List Nat} {c : Nat} : run t (pre ++ [c]) = (run t pre).foldl (stp t c) [] := by unfold run; rw [List.foldl_append]; rfl
theorem ev_lm0 {p t : List Nat} (hp : p.length ≤ 50) (hn : t.length ≤ 100) (hr : okR t p = true) : ∃ o, m_ulawumatches [.d (.str p), .d (.str t)] = some (.ok (.d (.bl (decide (t.length ∈ run t p)))) o) := by
  have : wF (m_ulawumatches [.d (.str p), .d (.str t)]) (fun u _ => u = .d (.bl (decide (t.length ∈ run t p)))) nX := by
    refine w_defM rfl (by fail "S") ?_
    unfold b_ulawumatches
    have itp : itemsD (.str p) = some (p.map fun c => .str [c]) := rfl
    have ln : lenD [.str t] = some (.d (.int (t.length : Int))) := Dw.len_str (Nat.le_trans hn (by decide))
    (repeat' fail "V")
    refine w_loopM (d := fun c => D.str [c]) (l := p) (fun pre e => ∃ s2 w3 w4 w5, (s2 = .own false (.lst (dN (run t pre))) ∨ s2 = .d (.lst (dN (run t pre)))) ∧ freeSlot (some w3) = true ∧ freeSlot (some w4) = true ∧ freeSlot (some w5) = true ∧ e = [.d (.str p), .d (.str t), s2, w3, w4, w5, .un]) ⟨_, _, _, _, .inl rfl, rfl, rfl, rfl, rfl⟩ ?_ ?_
    · rintro pre c suf _ e ⟨s2, w3, w4, w5, h2, f3, f4, f5, rfl⟩
      refine ⟨[.d (.str p), .d (.str t), s2, .d (.str [c]), w4, w5, .un], put_nm f3 rfl, ?_⟩
      obtain ⟨r1, r2⟩ := okR_at hr e
      unfold l_ulawumatches_3
      rw [run_snoc]
      generalize run t pre = X at *
      have itX : itemsD (.lst (dN X)) = some (X.map fun n : Nat => D.int (n : Int)) := rfl
      refine w_seqP (fun e => e = [.d (.str p), .d (.str t), s2, .d (.str [c]), .own false (.lst []), w5, .un]) ?_ ?_
      · (repeat' fail "V")
        rfl
      rintro _ rfl
      refine w_seqP (fun e => ∃ w5, freeSlot (some w5) = true ∧ e = [.d (.str p), .d (.str t), .d (.lst (dN X)), .d (.str [c]), .own false (.lst (dN (X.foldl (stp t c) []))), w5, .un]) ?_ ?_
      · have lp : ∀ {R : QE} {B Ct : Sl → Prop} {E : QX}, wS (loopD (.nm 5) l_ulawumatches_2 (X.map fun n : Nat => D.int (n : Int))) [.d (.str p), .d (.str t), .d (.lst (dN X)), .d (.str [c]), .own false (.lst []), w5, .un] (fun e => ∃ w5, freeSlot (some w5) = true ∧ e = [.d (.str p), .d (.str t), .d (.lst (dN X)), .d (.str [c]), .own false (.lst (dN (X.foldl (stp t c) []))), w5, .un]) ⟨R, B, Ct, E⟩ := by
          intro R B Ct E
          refine w_loopM (d := fun n : Nat => D.int (n : Int)) (l := X) (fun pre e => ∃ w5, freeSlot (some w5) = true ∧ e = [.d (.str p), .d (.str t), .d (.lst (dN X)), .d (.str [c]), .own false (.lst (dN (pre.foldl (stp t c) []))), w5, .un]) ⟨_, f5, rfl⟩ ?_ ?_
          · rintro pre q suf _ e ⟨w5, f5, rfl⟩
            refine ⟨[.d (.str p), .d (.str t), .d (.lst (dN X)), .d (.str [c]), .own false (.lst (dN (pre.foldl (stp t c) []))), .d (.int (q : Int)), .un], put_nm f5 rfl, ?_⟩
            have hl := run_len (t := t) (c := c) pre []
            have hpl : pre.length ≤ 10 := by have := r1; rw [e, List.length_append] at this; omega
            have hm : pre.length * (t.length + 1) ≤ 10 * 101 := Nat.mul_le_mul hpl (by omega)
            refine wS_mono (lm_turn hn (by simp at hl; omega) (r2 q (by rw [e]; simp))) ?_ (fun _ _ h => h) (fun _ h => h) (fun _ h => h) (fun _ _ h => h)
            rintro _ rfl
            exact ⟨_, rfl, by rw [List.foldl_append]; rfl⟩
          · rintro _ ⟨w5, f5, rfl⟩
            exact ⟨w5, f5, rfl⟩
        rcases h2 with rfl | rfl
        · (repeat' fail "V")
          exact lp
        · (repeat' fail "V")
          exact lp
      rintro _ ⟨w5, f5, rfl⟩
      (repeat' fail "V")
      exact ⟨_, _, _, _, .inr rfl, rfl, rfl, f5, rfl⟩
    · rintro _ ⟨s2, w3, w4, w5, h2, f3, f4, f5, rfl⟩
      have i1 := in_N (z := t.length) (L := run t p)
      rcases h2 with rfl | rfl
      · (repeat' fail "V")
        rfl
      · (repeat' fail "V")
        rfl
  obtain ⟨a, o, h1, rfl⟩ := wF_get this
  exact ⟨o, h1⟩
end
section
theorem chk_run : (menu4.all fun p => T81.all fun t => okR t p && (decide (t.length ∈ run t p) == MbF p t (p.length + t.length + 1) p.length t.length)) = true := by decide +kernel
theorem chk_hT : (hts.all fun x => decide (x ∈ T81)) = true := by decide +kernel
theorem hT {x : List Nat} (h : x ∈ hts) : x ∈ T81 := of_decide_eq_true (List.all_eq_true.mp chk_hT x h)
theorem chk_T3 : (T81.all fun x => decide (x.length ≤ 3)) = true := by decide +kernel
theorem T3 {x : List Nat} (h : x ∈ T81) : x.length ≤ 3 := of_decide_eq_true (List.all_eq_true.mp chk_T3 x h)
theorem ev_lm {p t : List Nat} (hp : p ∈ menu4) (ht : t ∈ T81) : ∃ o, m_ulawumatches [.d (.str p), .d (.str t)] = some (.ok (.d (.bl (MbF p t (p.length + t.length + 1) p.length t.length))) o) := by
  have := List.all_eq_true.mp (List.all_eq_true.mp chk_run p hp) t ht
  rw [Bool.and_eq_true] at this
  rw [← beq_iff_eq.mp this.2]
  exact ev_lm0 (by have := (ok4 p hp).1; omega) (by have := T3 ht; omega) this.1
theorem ev_lc {ps : List (List Nat)} {t : List Nat} (h : ps.length ≤ 4 ∧ ∀ p ∈ ps, p ∈ menu4) (ht : t ∈ T81) : ∃ o, m_ulawuclass [.d (.lst (sL ps)), .d (.str t)] = some (.ok (.own (.lst ((clB ps t).map .bl))) o) := by
  have : wF (m_ulawuclass [.d (.lst (sL ps)), .d (.str t)]) (fun u _ => u = .own (.lst ((clB ps t).map .bl))) nX := by
    refine w_defM rfl (by fail "S") ?_
    unfold b_ulawuclass
    have cmp := w_compM (vs := [2]) (tg := .nm 2) (fe := e_ulawuclass_1) (d := D.str) (g := fun p => .bl (MbF p t (p.length + t.length + 1) p.length t.length)) (l := ps) (e0 := [.d (.lst (sL ps)), .d (.str t), .un]) (by have := h.1; omega) fun p hp => by
      obtain ⟨o, e⟩ := ev_lm (h.2 p hp) ht
      refine ⟨[.d (.lst (sL ps)), .d (.str t), .d (.str p)], put_nm rfl rfl, ?_⟩
      unfold e_ulawuclass_1
      generalize MbF p t (p.length + t.length + 1) p.length t.length = b at *
      generalize sL ps = LP at *
      (repeat' fail "V")
      exact ⟨_, rfl, rfl⟩
    have it : itemsD (.lst (sL ps)) = some (sL ps) := rfl
    have em : (clB ps t).map D.bl = ps.map fun p => D.bl (MbF p t (p.length + t.length + 1) p.length t.length) := by unfold clB; rw [List.map_map]; rfl
    rw [em]
    generalize (ps.map fun p => D.bl (MbF p t (p.length + t.length + 1) p.length t.length)) = R at *
    have es : sL ps = ps.map D.str := rfl
    rw [← es] at cmp
    generalize sL ps = LP at *
    (repeat' fail "V")
    refine w_comp1 (env2 := [.d (.lst LP), .d (.str t), .un]) cmp rfl ?_
    (repeat' fail "V")
    rfl
  obtain ⟨a, o, h1, rfl⟩ := wF_get this
  exact ⟨o, h1⟩
theorem gd_blsL {a : List Bool} (h : a.length ≤ 20) : Gd (py (.lst (a.map D.bl))) 1 20 := by
  refine gd_lst (n := 20) (d := 0) (b := 0) (fun x hx => ?_) (by rw [pys_len, List.length_map]; exact h)
  obtain ⟨y, hy, rfl⟩ := pys_mem _ _ hx
  obtain ⟨i, hi, rfl⟩ := List.mem_map.mp hy
  exact gd_bl i
theorem eq_blsL {a b : List Bool} (ha : a.length ≤ 20) (hb : b.length ≤ 20) : eqD (.lst (a.map .bl)) (.lst (b.map .bl)) = some (.d (.bl (decide (a = b)))) := by
  have e : eqB (.lst (a.map D.bl)) (.lst (b.map D.bl)) = decide (a = b) := by rw [eqB, eqBs_bl]
  unfold eqD
  rw [gd_shp (gd_blsL ha) (by decide), gd_shp (gd_blsL hb) (by decide), e]
  simp
theorem clB_len {ps : List (List Nat)} {t : List Nat} : (clB ps t).length = ps.length := List.length_map ..
end
section
theorem lay_all : ∀ xs : List D, (∀ x ∈ xs, (py x).canLay0 = true ∧ (py x).depth ≤ 2) → PyData.canLayAll0 (pys xs) = true ∧ PyData.depthAll (pys xs) ≤ 2
  | [], _ => ⟨rfl, Nat.zero_le _⟩
  | x :: xs, h => by
    obtain ⟨a1, a2⟩ := lay_all xs fun y hy => h y (List.mem_cons_of_mem _ hy)
    obtain ⟨b1, b2⟩ := h x (List.mem_cons_self ..)
    rw [pys]
    refine ⟨by simp [PyData.canLayAll0, a1, b1], by simp only [PyData.depthAll]; omega⟩
inductive HvC : D → Prop
  | non : HvC .non
  | tup (n : Int) : HvC (.tup [.str [111, 119, 110], .int n])
  | int (i : Int) : HvC (.int i)
  | str (s : List Nat) : s ∈ hts → HvC (.str s)
theorem hv_cases {d : D} (h : d ∈ hvals) : HvC d := by
  simp only [hvals, List.mem_cons, List.not_mem_nil, or_false] at h
  rcases h with rfl | rfl | rfl | rfl | rfl | rfl | rfl | rfl | rfl | rfl | rfl | rfl | rfl | rfl | rfl | rfl | rfl | rfl | rfl | rfl <;>
    first | exact .non | exact .tup _ | exact .int _ | exact .str _ (by simp [hts])
inductive Hw : D → Prop
  | non : Hw .non
  | tup (n : Int) : Hw (.tup [.str [111, 119, 110], .int n])
  | int (i : Int) : Hw (.int i)
  | str (s : List Nat) : s ∈ T81 → Hw (.str s)
theorem hw_of {d : D} (h : d ∈ hvals) : Hw d := by
  cases hv_cases h with
  | non => exact .non
  | tup n => exact .tup n
  | int i => exact .int i
  | str s hs => exact .str s (hT hs)
def isTp : D → Bool
  | .tup _ => true
  | _ => false
theorem ev_isown {d : D} (h : Hw d) : ∃ o, m_is_own [.d d] = some (.ok (.d (.bl (isTp d))) o) := by
  cases h with
  | _ => exact ⟨_, rfl⟩
theorem Mb_plain {p t : List Nat} (h1 : 63 ∉ p) (h2 : 42 ∉ p) : ∀ k j : Nat, k ≤ p.length → j ≤ t.length → (Mb p t k j = true ↔ k = j ∧ ∀ i, i < k → p.getD i 0 = t.getD i 0)
  | 0, 0, _, _ => by simp [Mb]
  | 0, j + 1, _, _ => by simp [Mb]
  | k + 1, j, hk, hj => by
    have hm : p.getD k 0 ∈ p := by
      rw [List.getD_eq_getElem?_getD, List.getElem?_eq_getElem (show k < p.length by omega)]
      exact List.getElem_mem _
    have e1 : (p.getD k 0 == 42) = false := by
      rw [beq_eq_false_iff_ne]; intro e; rw [e] at hm; exact h2 hm
    have e2 : (p.getD k 0 == 63) = false := by
      rw [beq_eq_false_iff_ne]; intro e; rw [e] at hm; exact h1 hm
    cases j with
    | zero =>
      rw [Mb, e1, Bool.false_and]
      constructor
      · intro h; cases h
      · rintro ⟨h, _⟩; cases h
    | succ j =>
      rw [Mb, e1, if_neg Bool.false_ne_true, e2, Bool.false_or, Bool.and_eq_true, Mb_plain h1 h2 k j (by omega) (by omega), beq_iff_eq]
      constructor
      · rintro ⟨⟨a, b⟩, c⟩
        refine ⟨by omega, fun i hi => ?_⟩
        by_cases e : i = k
        · subst e; rw [c, a]
        · exact b i (by omega)
      · rintro ⟨a, b⟩
        have a' : k = j := by omega
        refine ⟨⟨a', fun i hi => b i (by omega)⟩, ?_⟩
        rw [b k (by omega), a']
theorem Mb_plain_eq {p t : List Nat} (h1 : 63 ∉ p) (h2 : 42 ∉ p) : Mb p t p.length t.length = (p == t) := by
  rw [Bool.eq_iff_iff, Mb_plain h1 h2 _ _ (Nat.le_refl _) (Nat.le_refl _), beq_iff_eq]
  constructor
  · rintro ⟨a, b⟩
    refine List.ext_getElem a fun i hi hj => ?_
    have := b i hi
    rw [List.getD_eq_getElem?_getD, List.getElem?_eq_getElem hi, List.getD_eq_getElem?_getD, List.getElem?_eq_getElem hj] at this
    exact this
  · rintro rfl
    exact ⟨rfl, fun _ _ => rfl⟩
theorem notIn_str {c : Nat} {s : List Nat} : notInG (.str [c]) (.str s) = some (.d (.bl (!decide (c ∈ s)))) := rfl
theorem ev_plain {p : List Nat} : ∃ o, m_is_plain [.d (.str p)] = some (.ok (.d (.bl (!decide (63 ∈ p) && !decide (42 ∈ p)))) o) := by
  refine ⟨[.d (.str p)], defM_rt (a := .d (.bl (!decide (63 ∈ p) && !decide (42 ∈ p)))) (env := [.d (.str p)]) [.d (.str p)] rfl rfl ?_ rfl rfl⟩
  unfold b_is_plain
  exact ev_ret (ev_andB (by repeat' (first | with_reducible exact notIn_str | with_reducible exact Dw.ty_str | with_reducible exact Dw.ty_lst | with_reducible exact Dw.lst_eq | with_reducible exact Dw.set_z | with_reducible exact Dw.ret_d | with_reducible exact Dw.ret_own | with_reducible exact Dw.mapd_nn | with_reducible exact Dw.ev_const | with_reducible exact Dw.ev_nil | with_reducible exact Dw.pk_d | with_reducible exact Dw.pk_own | with_reducible exact Dw.pks_nil | with_reducible exact Dw.frz_d | with_reducible exact Dw.frz_own | with_reducible exact Dw.frzs_nil | with_reducible exact Dw.tru_bl | with_reducible exact Dw.ev_skip | with_reducible exact Dw.len_lst | with_reducible exact Dw.len_tup | with_reducible exact Dw.eq_int | with_reducible exact Dw.ne_int | with_reducible exact Dw.eq_str | with_reducible exact Dw.ne_str | with_reducible exact Dw.eq_bl | with_reducible exact Dw.ne_bl | with_reducible exact Dw.lt_int' | with_reducible exact Dw.lt_str' | with_reducible exact Dw.le_int' | with_reducible exact Dw.gt_int' | with_reducible exact Dw.ge_int' | with_reducible exact Dw.add_int' | with_reducible exact Dw.sub_int' | with_reducible exact Dw.neg_int' | with_reducible exact Dw.ord_str | with_reducible exact Dw.int_int | with_reducible exact Dw.int_bl | with_reducible exact Dw.list_lst | with_reducible exact Dw.list_tup | with_reducible exact Dw.tup_lst | with_reducible exact Dw.tup_tup | with_reducible exact Dw.it_lst | with_reducible exact Dw.it_tup | with_reducible exact Dw.it_str | ((with_reducible apply Dw.ev_var); exact rfl) | ((with_reducible apply Dw.ev_varO); exact rfl) | ((with_reducible apply Dw.pk_cv); exact rfl) | ((with_reducible apply Dw.fs_ok); exact rfl) | ((with_reducible apply Dw.gE); exact rfl) | with_reducible apply Dw.ev_two | with_reducible apply Dw.ev_one | with_reducible apply Dw.ev_cons | with_reducible apply Dw.pks_cons | with_reducible apply Dw.ev_callE | with_reducible apply Dw.ev_isi | with_reducible apply Dw.frzs_cons | with_reducible apply Dw.ev_tup | with_reducible apply Dw.ev_lst | with_reducible apply Dw.ev_not | with_reducible apply Dw.ev_met | with_reducible apply Dw.ev_mut | with_reducible apply Dw.ev_ret | with_reducible apply Dw.ev_expr | with_reducible apply Dw.ev_asg | with_reducible apply Dw.ev_args | with_reducible apply Dw.ev_src | with_reducible apply Dw.ev_callD | with_reducible apply Dw.mapd_c | with_reducible apply Dw.mapd_d | with_reducible apply Dw.set_s | with_reducible apply Dw.st_d | with_reducible apply Dw.st_own | with_reducible apply Dw.st_cv | with_reducible apply Dw.frz_cv | ((with_reducible apply Dw.len_str); assumption) | ((with_reducible apply Dw.get_str) <;> assumption) | with_reducible assumption | ((with_reducible show Dw.okI _ = true); exact rfl))) (by repeat' (first | with_reducible exact notIn_str | with_reducible exact Dw.ty_str | with_reducible exact Dw.ty_lst | with_reducible exact Dw.lst_eq | with_reducible exact Dw.set_z | with_reducible exact Dw.ret_d | with_reducible exact Dw.ret_own | with_reducible exact Dw.mapd_nn | with_reducible exact Dw.ev_const | with_reducible exact Dw.ev_nil | with_reducible exact Dw.pk_d | with_reducible exact Dw.pk_own | with_reducible exact Dw.pks_nil | with_reducible exact Dw.frz_d | with_reducible exact Dw.frz_own | with_reducible exact Dw.frzs_nil | with_reducible exact Dw.tru_bl | with_reducible exact Dw.ev_skip | with_reducible exact Dw.len_lst | with_reducible exact Dw.len_tup | with_reducible exact Dw.eq_int | with_reducible exact Dw.ne_int | with_reducible exact Dw.eq_str | with_reducible exact Dw.ne_str | with_reducible exact Dw.eq_bl | with_reducible exact Dw.ne_bl | with_reducible exact Dw.lt_int' | with_reducible exact Dw.lt_str' | with_reducible exact Dw.le_int' | with_reducible exact Dw.gt_int' | with_reducible exact Dw.ge_int' | with_reducible exact Dw.add_int' | with_reducible exact Dw.sub_int' | with_reducible exact Dw.neg_int' | with_reducible exact Dw.ord_str | with_reducible exact Dw.int_int | with_reducible exact Dw.int_bl | with_reducible exact Dw.list_lst | with_reducible exact Dw.list_tup | with_reducible exact Dw.tup_lst | with_reducible exact Dw.tup_tup | with_reducible exact Dw.it_lst | with_reducible exact Dw.it_tup | with_reducible exact Dw.it_str | ((with_reducible apply Dw.ev_var); exact rfl) | ((with_reducible apply Dw.ev_varO); exact rfl) | ((with_reducible apply Dw.pk_cv); exact rfl) | ((with_reducible apply Dw.fs_ok); exact rfl) | ((with_reducible apply Dw.gE); exact rfl) | with_reducible apply Dw.ev_two | with_reducible apply Dw.ev_one | with_reducible apply Dw.ev_cons | with_reducible apply Dw.pks_cons | with_reducible apply Dw.ev_callE | with_reducible apply Dw.ev_isi | with_reducible apply Dw.frzs_cons | with_reducible apply Dw.ev_tup | with_reducible apply Dw.ev_lst | with_reducible apply Dw.ev_not | with_reducible apply Dw.ev_met | with_reducible apply Dw.ev_mut | with_reducible apply Dw.ev_ret | with_reducible apply Dw.ev_expr | with_reducible apply Dw.ev_asg | with_reducible apply Dw.ev_args | with_reducible apply Dw.ev_src | with_reducible apply Dw.ev_callD | with_reducible apply Dw.mapd_c | with_reducible apply Dw.mapd_d | with_reducible apply Dw.set_s | with_reducible apply Dw.st_d | with_reducible apply Dw.st_own | with_reducible apply Dw.st_cv | with_reducible apply Dw.frz_cv | ((with_reducible apply Dw.len_str); assumption) | ((with_reducible apply Dw.get_str) <;> assumption) | with_reducible assumption | ((with_reducible show Dw.okI _ = true); exact rfl))))
end
section
set_option maxHeartbeats 800000 in
theorem ev_matches {p t : List Nat} (hp : p.length ≤ 900) (ht : t.length ≤ 1000) : ∃ o, m_matches [.d (.str p), .d (.str t)] = some (.ok (.d (.bl (Mb p t p.length t.length))) o) := by
  have : wF (m_matches [.d (.str p), .d (.str t)]) (fun u _ => u = .d (.bl (Mb p t p.length t.length))) nX := by
    refine w_defM rfl (by fail "S") ?_
    unfold b_matches
    obtain ⟨o1, pl⟩ := ev_plain (p := p)
    by_cases hpl : (!decide (63 ∈ p) && !decide (42 ∈ p)) = true
    · rw [hpl] at pl
      rw [Bool.and_eq_true] at hpl
      have h1 : 63 ∉ p := by have := hpl.1; simpa using this
      have h2 : 42 ∉ p := by have := hpl.2; simpa using this
      have eq : eqD (.str p) (.str t) = some (.d (.bl (p == t))) := Dw.eq_str
      rw [Mb_plain_eq h1 h2]
      generalize (p == t) = b at *
      (repeat' fail "V")
      rfl
    · have hpl' : (!decide (63 ∈ p) && !decide (42 ∈ p)) = false := by
        cases hb : (!decide (63 ∈ p) && !decide (42 ∈ p)) with
        | true => exact absurd hb hpl
        | false => rfl
      rw [hpl'] at pl
      clear hpl hpl'
      obtain ⟨o2, st⟩ := ev_startX (p := p) (t := t) hp
      have itT : itemsD (.str t) = some (t.map fun c => .str [c]) := rfl
      have ln : lenD [.str p] = some (.d (.int (p.length : Int))) := Dw.len_str (Nat.le_trans hp (by decide))
      (repeat' fail "V")
      refine w_loopM (d := fun c => D.str [c]) (l := t) (fun pre e => ∃ w3, freeSlot (some w3) = true ∧ e = [.d (.str p), .d (.str t), .d (.tup (dI (Ls p t pre.length))), w3]) ⟨_, rfl, rfl⟩ ?_ ?_
      · rintro pre c suf _ e ⟨w3, f3, rfl⟩
        refine ⟨[.d (.str p), .d (.str t), .d (.tup (dI (Ls p t pre.length))), .d (.str [c])], put_nm f3 rfl, ?_⟩
        obtain ⟨o3, nx⟩ := ev_nextX (p := p) (t := t) (j := pre.length) hp
        have gc : t.getD pre.length 0 = c := by rw [e, List.getD_eq_getElem?_getD, List.getElem?_append_right (Nat.le_refl _), Nat.sub_self]; rfl
        rw [gc] at nx
        rw [List.length_append, List.length_singleton]
        unfold l_matches_1
        generalize dI (Ls p t pre.length) = A at *
        generalize dI (Ls p t (pre.length + 1)) = B at *
        (repeat' fail "V")
        exact ⟨_, rfl, rfl⟩
      · rintro _ ⟨w3, f3, rfl⟩
        have i1 := in_tupI (z := (p.length : Int)) (ls := Ls p t t.length)
        have eb : Mb p t p.length t.length = decide ((p.length : Int) ∈ Ls p t t.length) := by
          have := Ls_mem (p := p) (t := t) (j := t.length) (k := p.length) (Nat.le_refl _)
          cases hm : Mb p t p.length t.length with
          | true => exact (decide_eq_true (this.mpr hm)).symm
          | false => exact (decide_eq_false (fun c => by rw [this.mp c] at hm; cases hm)).symm
        rw [eb]
        generalize decide ((p.length : Int) ∈ Ls p t t.length) = b at *
        generalize dI (Ls p t t.length) = A at *
        (repeat' fail "V")
        rfl
  obtain ⟨a, o, h1, rfl⟩ := wF_get this
  exact ⟨o, h1⟩
theorem ev_class {ps : List (List Nat)} {t : List Nat} (h : ps.length ≤ 4 ∧ ∀ p ∈ ps, p ∈ menu4) (ht : t.length ≤ 1000) : ∃ o, m_class_of [.d (.lst (sL ps)), .d (.str t)] = some (.ok (.d (bls (clB ps t))) o) := by
  have : wF (m_class_of [.d (.lst (sL ps)), .d (.str t)]) (fun u _ => u = .d (bls (clB ps t))) nX := by
    refine w_defM rfl (by fail "S") ?_
    unfold b_class_of
    have cmp := w_compM (vs := [2]) (tg := .nm 2) (fe := e_class_of_1) (d := D.str) (g := fun p => .bl (MbF p t (p.length + t.length + 1) p.length t.length)) (l := ps) (e0 := [.d (.lst (sL ps)), .d (.str t), .un]) (by have := h.1; omega) fun p hp => by
      obtain ⟨o, e⟩ := ev_matches (p := p) (t := t) (by have := (ok4 p (h.2 p hp)).1; omega) ht
      rw [← MbF_eq (p.length + t.length + 1) _ _ (by omega)] at e
      refine ⟨[.d (.lst (sL ps)), .d (.str t), .d (.str p)], put_nm rfl rfl, ?_⟩
      unfold e_class_of_1
      generalize MbF p t (p.length + t.length + 1) p.length t.length = b at *
      generalize sL ps = LP at *
      (repeat' fail "V")
      exact ⟨_, rfl, rfl⟩
    have it : itemsD (.lst (sL ps)) = some (sL ps) := rfl
    have em : bls (clB ps t) = .tup (ps.map fun p => D.bl (MbF p t (p.length + t.length + 1) p.length t.length)) := by unfold clB bls; rw [List.map_map]; rfl
    have e5 : tupleC [.lst (ps.map fun p => D.bl (MbF p t (p.length + t.length + 1) p.length t.length))] = some (.d (bls (clB ps t))) := by rw [em]; rfl
    generalize bls (clB ps t) = CT at *
    generalize (ps.map fun p => D.bl (MbF p t (p.length + t.length + 1) p.length t.length)) = R at *
    have es : sL ps = ps.map D.str := rfl
    rw [← es] at cmp
    generalize sL ps = LP at *
    (repeat' fail "V")
    refine w_comp1 (env2 := [.d (.lst LP), .d (.str t), .un]) cmp rfl ?_
    (repeat' fail "V")
    rfl
  obtain ⟨a, o, h1, rfl⟩ := wF_get this
  exact ⟨o, h1⟩
end
section
theorem keyB_iff {a b : D} : keyB a b = true ↔ a = b ∧ isK a = true := by
  cases a <;> cases b <;> simp [keyB, isK]
theorem keyB_tr {a k z : D} (h1 : keyB a z = true) (h2 : keyB k z = true) : keyB a k = true := by
  obtain ⟨rfl, e⟩ := keyB_iff.mp h1
  obtain ⟨rfl, _⟩ := keyB_iff.mp h2
  exact keyB_iff.mpr ⟨rfl, e⟩
theorem keyB_tr2 {a k z : D} (h1 : keyB a k = true) (h2 : keyB k z = true) : keyB a z = true := by
  obtain ⟨rfl, e⟩ := keyB_iff.mp h1
  exact h2
theorem keyB_tr3 {a k z : D} (h1 : keyB a z = true) (h2 : keyB a k = true) : keyB k z = true := by
  obtain ⟨rfl, e⟩ := keyB_iff.mp h2
  exact h1
theorem set_neK {k y z : D} (h : keyB k z = false) : ∀ ks vs : List D, atD ks (setD ks vs k y) z = atD ks vs z
  | [], _ => rfl
  | _ :: _, [] => rfl
  | a :: ks, v :: vs => by
    show (if keyB a z = true then some (if keyB a k = true then y else v) else atD ks (setD ks vs k y) z) = if keyB a z = true then some v else atD ks vs z
    rw [set_neK h ks vs]
    by_cases g : keyB a z = true
    · by_cases g2 : keyB a k = true
      · rw [keyB_tr3 g g2] at h; cases h
      · simp [g, g2]
    · simp [g]
theorem set_eqK {k y z : D} (h : keyB k z = true) : ∀ ks vs : List D, ks.length = vs.length → hasD ks k = true → atD ks (setD ks vs k y) z = some y
  | [], _, _, g => by cases g
  | _ :: _, [], e, _ => by cases e
  | a :: ks, v :: vs, e, g => by
    show (if keyB a z = true then some (if keyB a k = true then y else v) else atD ks (setD ks vs k y) z) = some y
    by_cases g1 : keyB a k = true
    · rw [if_pos (keyB_tr2 g1 h), if_pos g1]
    · rw [if_neg (fun q => g1 (keyB_tr q h))]
      refine set_eqK h ks vs (Nat.succ.inj e) ?_
      have g : (keyB a k || hasD ks k) = true := g
      rw [Bool.or_eq_true] at g
      exact g.resolve_left g1
theorem at_appK {k y z : D} : ∀ ks vs : List D, ks.length = vs.length → hasD ks k = false → atD (ks ++ [k]) (vs ++ [y]) z = if keyB k z = true then some y else atD ks vs z
  | [], [], _, _ => rfl
  | [], _ :: _, e, _ => by cases e
  | _ :: _, [], e, _ => by cases e
  | a :: ks, v :: vs, e, g => by
    have g : (keyB a k || hasD ks k) = false := g
    rw [Bool.or_eq_false_iff] at g
    show (if keyB a z = true then some v else atD (ks ++ [k]) (vs ++ [y]) z) = if keyB k z = true then some y else (if keyB a z = true then some v else atD ks vs z)
    rw [at_appK ks vs (Nat.succ.inj e) g.2]
    by_cases h1 : keyB a z = true
    · by_cases h2 : keyB k z = true
      · have := g.1; rw [keyB_tr h1 h2] at this; cases this
      · simp [h1, h2]
    · simp [h1]
theorem at_putK {ks vs : List D} {k y z : D} (e : ks.length = vs.length) : atD (putDk ks k) (putDv ks vs k y) z = if keyB k z = true then some y else atD ks vs z := by
  unfold putDk putDv
  cases h : hasD ks k with
  | false => rw [if_neg Bool.false_ne_true, if_neg Bool.false_ne_true]; exact at_appK ks vs e h
  | true =>
    rw [if_pos rfl, if_pos rfl]
    cases g : keyB k z with
    | true => rw [if_pos rfl]; exact set_eqK g ks vs e h
    | false => rw [if_neg Bool.false_ne_true]; exact set_neK g ks vs
theorem set_lenK {k y : D} : ∀ ks vs : List D, ks.length = vs.length → (setD ks vs k y).length = ks.length
  | [], [], _ => rfl
  | [], _ :: _, e => by cases e
  | _ :: _, [], e => by cases e
  | a :: ks, v :: vs, e => congrArg (· + 1) (set_lenK ks vs (Nat.succ.inj e))
theorem put_lenK {ks vs : List D} {k y : D} (e : ks.length = vs.length) : (putDk ks k).length = (putDv ks vs k y).length ∧ (putDk ks k).length ≤ ks.length + 1 := by
  unfold putDk putDv
  split
  · rw [set_lenK ks vs e]; exact ⟨rfl, Nat.le_succ _⟩
  · rw [List.length_append, List.length_append, e]; exact ⟨rfl, Nat.le_refl _⟩
def isNn : D → Bool
  | .non => true
  | _ => false
def kpB (d : D) : Bool := !isNn d && !isTp d
theorem isNot_nn {d : D} : isNotD d .non = some (.d (.bl (!isNn d))) := by cases d <;> rfl
theorem ev_inner {base xs : List D} {s0 s2 s3 : SV} (hx : ∀ d ∈ xs, Hw d) (hb : base.length + xs.length ≤ 1000) :
    wBd (turnsN ⟨(srcE (varE 3)), (.nm 1), (some (andE (two (op2 isNotD) (varE 1) (constE .non)) (notE (callD m_is_own [] (consA (varE 1) nilA))))), [1]⟩ (clsN (emL e_values_held_1) []) xs [s0, .un, s2, s3] (.lst base)) (fun acc e => acc = .lst (base ++ xs.filter kpB) ∧ e = [s0, .un, s2, s3]) := by
  have := w_turns (d := id) (l := xs) (c := ⟨(srcE (varE 3)), (.nm 1), (some (andE (two (op2 isNotD) (varE 1) (constE .non)) (notE (callD m_is_own [] (consA (varE 1) nilA))))), [1]⟩) (body := clsN (emL e_values_held_1) []) (e0 := [s0, .un, s2, s3]) (acc := .lst base) (P := fun acc e => acc = .lst (base ++ xs.filter kpB) ∧ e = [s0, .un, s2, s3])
    (fun pre acc => acc = .lst (base ++ pre.filter kpB)) (by rw [List.filter_nil, List.append_nil]) (by
      rintro pre x suf _ hl rfl
      have hm : Hw x := hx x (by rw [hl]; exact List.mem_append_right _ (List.mem_cons_self ..))
      obtain ⟨o, ow⟩ := ev_isown hm
      have n1 := isNot_nn (d := x)
      have hle : (base ++ pre.filter kpB).length < 100000 := by
        have h1 := List.length_filter_le kpB pre
        have h2 : xs.length = pre.length + (suf.length + 1) := by rw [hl, List.length_append, List.length_cons]
        rw [List.length_append]; omega
      refine wT_s (env1 := [s0, .d x, s2, s3]) (put_nm rfl rfl) ?_
      have no : kpB x = false → base ++ pre.filter kpB = base ++ (pre ++ [x]).filter kpB := fun h => by
        rw [List.filter_append, List.filter_cons_of_neg (by rw [h]; exact Bool.false_ne_true), List.filter_nil, List.append_nil]
      (repeat' fail "V")
      · intro h
        (repeat' fail "V")
        · intro h2
          have hk : kpB x = true := by unfold kpB; rw [h, h2]; rfl
          refine wBd_0 (wBd_l hle ?_)
          unfold e_values_held_1
          (repeat' fail "V")
          refine ⟨_, _, rfl, rfl, ?_⟩
          rw [List.filter_append, List.filter_cons_of_pos hk, List.filter_nil, List.append_assoc]
        · intro h2
          refine ⟨rfl, ?_⟩
          rw [no (by unfold kpB; rw [h, h2]; rfl)]
      · intro h
        (repeat' fail "V")
        refine ⟨rfl, ?_⟩
        rw [no (by unfold kpB; rw [h]; rfl)]) (by
      rintro _ rfl
      exact ⟨rfl, rfl⟩)
  rwa [List.map_id] at this
theorem ev_held {p : Pr} (hx : ∀ d ∈ p.x, Hw d) (hy : ∀ d ∈ p.y, Hw d) (xl : p.x.length ≤ 3) (yl : p.y.length ≤ 3) : ∃ o, m_values_held [.d (prD p)] = some (.ok (.own (.lst ((p.x ++ p.y).filter kpB))) o) := by
  have : wF (m_values_held [.d (prD p)]) (fun u _ => u = .own (.lst ((p.x ++ p.y).filter kpB))) nX := by
    refine w_defM rfl (by fail "S") ?_
    unfold b_values_held
    have it : itemsD (prD p) = some ([(p.a, p.x), (p.b, p.y)].map fun u : List Nat × List D => D.tup [.str u.1, .lst u.2]) := rfl
    (repeat' fail "V")
    refine wBd_mono (P := fun acc e => acc = .lst ((p.x ++ p.y).filter kpB) ∧ e = [.d (prD p), .un, .un, .un]) ?_ ?_
    · refine w_turns (fun pre acc => acc = .lst ((pre.flatMap (·.2)).filter kpB)) rfl ?_ ?_
      · rintro pre u suf _ hl rfl
        have hu : u.2.length ≤ 3 ∧ (∀ d ∈ u.2, Hw d) ∧ (pre.flatMap (·.2)).length ≤ 3 := by
          cases pre with
          | nil =>
            cases hl
            exact ⟨xl, hx, by simp⟩
          | cons a pre =>
            cases pre with
            | nil =>
              cases hl
              exact ⟨yl, hy, by simpa using xl⟩
            | cons b pre =>
              injection hl with e1 hl
              injection hl with e2 hl
              cases pre <;> cases hl
        refine wT_n (env1 := [.d (prD p), .un, .d (.str u.1), .d (.lst u.2)]) (show putT (.two 2 3) _ [.d (prD p), .un, .un, .un] = _ by fail "S") ?_
        (repeat' fail "V")
        refine wBd_mono (ev_inner hu.2.1 (by have := List.length_filter_le kpB (pre.flatMap (·.2)); omega)) ?_
        rintro _ _ ⟨rfl, rfl⟩
        refine ⟨rfl, ?_⟩
        rw [List.flatMap_append, List.filter_append]
        simp
      · rintro _ rfl
        refine ⟨?_, rfl⟩
        simp
    · rintro _ _ ⟨rfl, rfl⟩
      exact ⟨_, _, rfl, rfl, rfl⟩
  obtain ⟨a, o, h1, rfl⟩ := wF_get this
  exact ⟨o, h1⟩
/-- their classes -/
theorem ev_cls {ps : List (List Nat)} {p : Pr} (h : ps.length ≤ 4 ∧ ∀ p ∈ ps, p ∈ menu4) (hx : ∀ d ∈ p.x, Hw d) (hy : ∀ d ∈ p.y, Hw d) (xl : p.x.length ≤ 3) (yl : p.y.length ≤ 3) :
    ∃ ks vs o, m_classes_held [.d (.lst (sL ps)), .d (prD p)] = some (.ok (.own (.dct ks vs)) o) ∧ ∀ s, D.str s ∈ p.x ++ p.y → atD ks vs (.str s) = some (bls (clB ps s)) := by
  have : wF (m_classes_held [.d (.lst (sL ps)), .d (prD p)]) (fun u _ => ∃ ks vs, u = .own (.dct ks vs) ∧ ∀ s, D.str s ∈ p.x ++ p.y → atD ks vs (.str s) = some (bls (clB ps s))) nX := by
    refine w_defM rfl (by fail "S") ?_
    unfold b_classes_held
    obtain ⟨o, eh⟩ := ev_held hx hy xl yl
    have fl := List.length_filter_le kpB (p.x ++ p.y)
    have hw : ∀ d ∈ (p.x ++ p.y).filter kpB, Hw d := fun d hd => by
      rcases List.mem_append.mp (List.mem_filter.mp hd).1 with z | z
      · exact hx d z
      · exact hy d z
    have hin : ∀ s, D.str s ∈ p.x ++ p.y → D.str s ∈ (p.x ++ p.y).filter kpB := fun s hs => List.mem_filter.mpr ⟨hs, rfl⟩
    rw [List.length_append] at fl
    have fl : ((p.x ++ p.y).filter kpB).length ≤ 6 := by omega
    have itR : itemsD (.lst ((p.x ++ p.y).filter kpB)) = some (((p.x ++ p.y).filter kpB).map fun d : D => d) := by rw [List.map_id']; rfl
    generalize (p.x ++ p.y).filter kpB = W at *
    generalize hPD : prD p = PD at *
    (repeat' fail "V")
    refine w_turns (d := fun d : D => d) (l := W) (e0 := [.d (.lst (sL ps)), .d PD, .un]) (fun pre acc => ∃ ks vs, acc = .dct ks vs ∧ ks.length = vs.length ∧ ks.length ≤ pre.length ∧ ∀ s, D.str s ∈ pre → atD ks vs (.str s) = some (bls (clB ps s))) ⟨[], [], rfl, rfl, Nat.le_refl _, fun s hs => by cases hs⟩ ?_ ?_
    · rintro pre d suf _ hl ⟨ks, vs, rfl, k1, k2, k3⟩
      have hd := hw d (by rw [hl]; simp)
      have pl : pre.length ≤ 6 := by rw [hl, List.length_append] at fl; omega
      refine wT_s (env1 := [.d (.lst (sL ps)), .d PD, .d d]) (put_nm rfl rfl) ?_
      cases hd with
      | str s hs =>
        obtain ⟨o2, ec⟩ := ev_class (t := s) h (by have := T3 hs; omega)
        generalize hLP : D.lst (sL ps) = LP at *
        generalize hB : bls (clB ps s) = BS at *
        clear itR
        (repeat' fail "V")
        · intro _
          refine wBd_0 (wBd_k (by omega) ?_)
          unfold k_classes_held_1 e_classes_held_2
          (repeat' fail "V")
          refine ⟨_, rfl, rfl, ?_⟩
          (repeat' fail "V")
          refine ⟨_, _, rfl, rfl, ?_⟩
          have pl2 := put_lenK (k := D.str s) (y := BS) k1
          refine ⟨_, _, rfl, pl2.1, by rw [List.length_append, List.length_singleton]; omega, fun t ht => ?_⟩
          rw [at_putK k1]
          by_cases e : s = t
          · subst e
            rw [if_pos (by simp [keyB]), hB]
          · rw [if_neg (by simp [keyB, e])]
            refine k3 t ?_
            rcases List.mem_append.mp ht with z | z
            · exact z
            · exact absurd (D.str.inj (List.mem_singleton.mp z)).symm e
        · intro z; exact absurd z (by simp [isiD, tyD])
      | _ =>
        clear itR
        (repeat' fail "V")
        · intro z; exact absurd z (by simp [isiD, tyD])
        · intro _
          refine ⟨rfl, ks, vs, rfl, k1, by rw [List.length_append]; omega, fun t ht => k3 t ?_⟩
          rcases List.mem_append.mp ht with z | z
          · exact z
          · exact absurd (List.mem_singleton.mp z) (by simp)
    · rintro _ ⟨ks, vs, rfl, k1, k2, k3⟩
      exact ⟨_, _, rfl, rfl, ks, vs, rfl, fun s hs => k3 s (hin s hs)⟩
  obtain ⟨a, o, h1, ks, vs, rfl, h2⟩ := wF_get this
  exact ⟨ks, vs, o, h1, h2⟩
end
section
mutual
theorem eqB_rf : ∀ x : D, dpl x = true → eqB x x = true
  | .non, _ => rfl
  | .bl b, _ => by simp [eqB]
  | .int i, _ => by simp [eqB]
  | .str s, _ => by simp [eqB]
  | .lst xs, h => by rw [eqB]; exact eqBs_rf xs (by rw [dpl] at h; exact h)
  | .tup xs, h => by rw [eqB]; exact eqBs_rf xs (by rw [dpl] at h; exact h)
  | .dct _ _, h => by rw [dpl] at h; cases h; all_goals (intros; contradiction)
  | .dcu _ _, h => by rw [dpl] at h; cases h; all_goals (intros; contradiction)
  | .ins _ _ _, h => by rw [dpl] at h; cases h; all_goals (intros; contradiction)
theorem eqBs_rf : ∀ xs : List D, dpls xs = true → eqBs xs xs = true
  | [], _ => rfl
  | x :: xs, h => by
    rw [dpls, Bool.and_eq_true] at h
    rw [eqBs, eqB_rf x h.1, eqBs_rf xs h.2]; rfl
end
theorem eqD_self {x : D} (h : shp x = true) : eqD x x = some (.d (.bl true)) := by
  unfold eqD
  rw [h, Bool.and_self, Bool.or_true, if_pos rfl, eqB_rf x (shp_pl h)]
theorem chk_T81lay : (T81.all fun t => (py (.str t)).canLay0 && decide ((py (.str t)).depth ≤ 2)) = true := by decide +kernel
theorem hw_lay {d : D} (h : Hw d) : (py d).canLay0 = true ∧ (py d).depth ≤ 2 := by
  cases h with
  | non => exact ⟨rfl, by decide⟩
  | tup n =>
    have : PyData.strOk (mk [111, 119, 110]) = true := by decide +kernel
    exact ⟨by simp [py, pys, PyData.canLay0, PyData.canLayAll0, this], by simp [py, pys, PyData.depth, PyData.depthAll]⟩
  | int i => exact ⟨by simp [py, PyData.canLay0], by simp [py, PyData.depth]⟩
  | str s hs =>
    have := List.all_eq_true.mp chk_T81lay s hs
    rw [Bool.and_eq_true] at this
    exact ⟨this.1, of_decide_eq_true this.2⟩
structure PrW (p : Pr) : Prop where
  a : ab p.a
  b : ab p.b
  x : ∀ d ∈ p.x, Hw d
  y : ∀ d ∈ p.y, Hw d
theorem ab_lay {s : List Nat} (h : ab s) : (py (.str s)).canLay0 = true ∧ (py (.str s)).depth = 0 := by
  rcases h with rfl | rfl <;> exact ⟨by decide +kernel, by decide +kernel⟩
theorem shp_pr {p : Pr} (h : PrW p) : shp (prD p) = true := by
  obtain ⟨x1, x2⟩ := lay_all p.x fun d hd => hw_lay (h.x d hd)
  obtain ⟨y1, y2⟩ := lay_all p.y fun d hd => hw_lay (h.y d hd)
  obtain ⟨a1, a2⟩ := ab_lay h.a
  obtain ⟨b1, b2⟩ := ab_lay h.b
  rw [py] at a1 a2 b1 b2
  simp only [PyData.canLay0] at a1 b1
  unfold shp prD
  simp [SeqAt.shaped, py, pys, PyData.canLay0, PyData.canLayAll0, PyData.depth, PyData.depthAll, x1, y1, a1, b1, a2, b2]
  omega
theorem cut_nD {x : List D} {k : Nat} : cutL x none (some (k : Int)) = x.take k := by
  unfold cutL
  rw [HT.sIx_none, HT.sIx_nat, List.drop_zero, Nat.sub_zero]
  by_cases h : k ≤ x.length
  · rw [Nat.min_eq_left h]
  · rw [Nat.min_eq_right (by omega), List.take_length, List.take_of_length_le (by omega)]
theorem ev_menu {ns : List Int} (hl : ns.length ≤ 63) {k : Int} : wF (m_ulawumenu [.d (iL ns), .d (.int k)]) (fun u _ => ∃ m, m ∈ mw ∧ u = .own (.lst (sL m.1))) nX := by
  refine w_defM rfl (by fail "S") ?_
  unfold b_ulawumenu
  (repeat' fail "V")
  refine wC_drw hl (by decide) fun v hv => ?_
  (repeat' fail "V")
  have hv5 : v < 5 := by omega
  rw [cut_nD]
  match v, hv5 with
  | 0, _ => exact ⟨_, .head _, rfl⟩
  | 1, _ => exact ⟨_, .tail _ (.head _), rfl⟩
  | 2, _ => exact ⟨_, .tail _ (.tail _ (.head _)), rfl⟩
  | 3, _ => exact ⟨_, .tail _ (.tail _ (.tail _ (.head _))), rfl⟩
  | 4, _ => exact ⟨_, .tail _ (.tail _ (.tail _ (.tail _ (.head _)))), rfl⟩
  | n + 5, h => omega
end
section
inductive Hv
  | n
  | o (k : Int)
  | i (z : Int)
  | t (s : List Nat)
  deriving DecidableEq
inductive Pk
  | c (w : List Bool) (n : Nat)
  | own (n : Nat)
  | non
  | zero
  | known (n : Nat)
  deriving DecidableEq
def isO : Hv → Bool
  | .o _ => true
  | _ => false
def pk (ps : List (List Nat)) (held tog : List Hv) : Hv → Pk
  | .t s => .c (clB ps s) (tog.idxOf (.t s))
  | .o k => .own (held.idxOf (.o k))
  | .n => .non
  | .i z => if z = 0 then .zero else .known (tog.idxOf (.i z))
def mrk (ps : List (List Nat)) : Hv → Hv → Bool
  | .n, .n => true
  | .o _, .o _ => true
  | .i z, .i y => decide (z = 0) == decide (y = 0)
  | .t s, .t u => decide (clB ps s = clB ps u)
  | _, _ => false
abbrev at' (row : List Hv) (i : Nat) : Hv := row.getD i .n
def lnk (row : List Hv) (i j s : Nat) : Bool := decide (at' row i ≠ .n ∧ at' row i = at' row j ∧ (isO (at' row i) = true → (i < s ↔ j < s)))
def alk (ps : List (List Nat)) (row row' : List Hv) (s : Nat) : Prop := ∀ i, i < row.length → mrk ps (at' row i) (at' row' i) = true ∧ ∀ j, j < i → lnk row i j s = lnk row' i j s
def kl (ps : List (List Nat)) (x y : List Hv) : List Pk := x.map (pk ps x (x ++ y)) ++ y.map (pk ps y (x ++ y))
theorem at_lt {L : List Hv} {i : Nat} (h : i < L.length) : at' L i = L[i] := by simp [at', List.getD_eq_getElem?_getD, h]
theorem at_mem {L : List Hv} {i : Nat} (h : i < L.length) : at' L i ∈ L := by rw [at_lt h]; exact List.getElem_mem _
theorem at_l {x y : List Hv} {i : Nat} (h : i < x.length) : at' (x ++ y) i = at' x i := by
  rw [at_lt h, at_lt (by rw [List.length_append]; omega), List.getElem_append_left h]
theorem at_r {x y : List Hv} {i : Nat} (h : i < y.length) : at' (x ++ y) (x.length + i) = at' y i := by
  rw [at_lt h, at_lt (by rw [List.length_append]; omega), List.getElem_append_right (by omega)]
  congr 1; omega
theorem idx_min {a : Hv} : ∀ {L : List Hv} {j : Nat}, j < L.length → at' L j = a → L.idxOf a ≤ j
  | [], _, h, _ => by cases h
  | x :: L, 0, _, e => by
    have e : x = a := e
    rw [List.idxOf_cons, e]; simp
  | x :: L, j + 1, h, e => by
    have := idx_min (L := L) (j := j) (by simpa using h) e
    rw [List.idxOf_cons]
    cases (x == a) <;> simp <;> omega
theorem at_idx {a : Hv} : ∀ {L : List Hv}, a ∈ L → at' L (L.idxOf a) = a
  | [], h => by cases h
  | x :: L, h => by
    rw [List.idxOf_cons]
    by_cases c : x = a
    · subst c; simp [at']
    · have c' : (x == a) = false := by simp [c]
      rw [c']
      show at' L (L.idxOf a) = a
      exact at_idx ((List.mem_cons.mp h).resolve_left fun z => c z.symm)
theorem idx_le {L L' : List Hv} {i : Nat} (hi : i < L.length) (hi' : i < L'.length) (h : ∀ j, j < i → at' L j = at' L i → at' L' j = at' L' i) : L'.idxOf (at' L' i) ≤ L.idxOf (at' L i) := by
  have m1 := idx_min hi (rfl : at' L i = at' L i)
  have m2 := at_idx (at_mem hi)
  by_cases c : L.idxOf (at' L i) < i
  · exact idx_min (by omega) (h _ c m2)
  · rw [show L.idxOf (at' L i) = i by omega]
    exact idx_min hi' rfl
theorem idx_eq {L L' : List Hv} {i : Nat} (hi : i < L.length) (hi' : i < L'.length) (h : ∀ j, j < i → (at' L i = at' L j ↔ at' L' i = at' L' j)) : L.idxOf (at' L i) = L'.idxOf (at' L' i) :=
  Nat.le_antisymm (idx_le hi' hi fun j hj e => ((h j hj).mpr e.symm).symm) (idx_le hi hi' fun j hj e => ((h j hj).mp e.symm).symm)
theorem idx_inj {a b : Hv} {L : List Hv} (ha : a ∈ L) (hb : b ∈ L) (e : L.idxOf a = L.idxOf b) : a = b := by
  have h1 := at_idx ha
  have h2 := at_idx hb
  rw [e, h2] at h1
  exact h1.symm
section
variable {ps : List (List Nat)}
theorem pk_mrk {a b r r' : List Hv} {v w : Hv} (h : pk ps a r v = pk ps b r' w) : mrk ps v w = true := by
  cases v <;> cases w <;> simp only [pk] at h <;> first | rfl | (cases h; done) | skip
  · split at h <;> cases h
  · split at h <;> cases h
  · split at h <;> cases h
  · split at h <;> cases h
  · rename_i z y
    simp only [mrk]
    by_cases hz : z = 0
    · by_cases hy : y = 0
      · simp [hz, hy]
      · rw [if_pos hz, if_neg hy] at h; cases h
    · by_cases hy : y = 0
      · rw [if_neg hz, if_pos hy] at h; cases h
      · simp [hz, hy]
  · split at h <;> cases h
  · split at h <;> cases h
  · injection h with h1 h2
    simp [mrk, h1]
theorem pk_held {a b r : List Hv} {v : Hv} (h : isO v = false) : pk ps a r v = pk ps b r v := by
  cases v <;> first | rfl | (cases h; done)
theorem mrk_n {v w : Hv} (h : mrk ps v w = true) : (v = .n ↔ w = .n) ∧ isO v = isO w := by
  cases v <;> cases w <;> first | (cases h; done) | (refine ⟨⟨fun z => ?_, fun z => ?_⟩, rfl⟩ <;> first | rfl | (cases z; done))
theorem pk_inj {a r : List Hv} {v w : Hv} (h : pk ps a r v = pk ps a r w) (hv : v ∈ r) (hw : w ∈ r) (ho : isO v = true → v ∈ a ∧ w ∈ a) : v = w := by
  have hm := pk_mrk h
  cases v <;> cases w <;> first | (cases hm; done) | skip
  · rfl
  · injection h with h
    exact idx_inj (ho rfl).1 (ho rfl).2 h
  · rename_i z y
    simp only [pk] at h
    by_cases hz : z = 0
    · by_cases hy : y = 0
      · rw [hz, hy]
      · rw [if_pos hz, if_neg hy] at h; cases h
    · by_cases hy : y = 0
      · rw [if_neg hz, if_pos hy] at h; cases h
      · rw [if_neg hz, if_neg hy] at h
        injection h with h
        exact idx_inj hv hw h
  · injection h with _ h
    exact idx_inj hv hw h
def sd (x y : List Hv) (i : Nat) : List Hv := if i < x.length then x else y
theorem kl_len {x y : List Hv} : (kl ps x y).length = x.length + y.length := by simp [kl]
theorem kl_at {x y : List Hv} {i : Nat} (h : i < x.length + y.length) : (kl ps x y)[i]? = some (pk ps (sd x y i) (x ++ y) (at' (x ++ y) i)) := by
  unfold kl sd
  by_cases c : i < x.length
  · rw [List.getElem?_append_left (by simpa using c), List.getElem?_map, List.getElem?_eq_getElem c, if_pos c, at_l c, at_lt c]
    rfl
  · obtain ⟨k, rfl⟩ : ∃ k, i = x.length + k := ⟨i - x.length, by omega⟩
    have hk : k < y.length := by omega
    rw [List.getElem?_append_right (by simp), List.length_map, Nat.add_sub_cancel_left, List.getElem?_map, List.getElem?_eq_getElem hk, if_neg c, at_r hk, at_lt hk]
    rfl
theorem lnk_fwd {x y x' y' : List Hv} (hx : x.length = x'.length) (hy : y.length = y'.length)
    (h : ∀ i, i < x.length + y.length → pk ps (sd x y i) (x ++ y) (at' (x ++ y) i) = pk ps (sd x' y' i) (x' ++ y') (at' (x' ++ y') i))
    {i j : Nat} (hi : i < x.length + y.length) (hj : j < i) (hl : lnk (x ++ y) i j x.length = true) : lnk (x' ++ y') i j x.length = true := by
  have hj' : j < x.length + y.length := by omega
  unfold lnk at hl ⊢
  rw [decide_eq_true_iff] at hl ⊢
  obtain ⟨h1, h2, h3⟩ := hl
  have ei := h i hi
  have ej := h j hj'
  obtain ⟨ni, oi⟩ := mrk_n (pk_mrk ei)
  have hn : at' (x' ++ y') i ≠ .n := fun z => h1 (ni.mpr z)
  have es : pk ps (sd x y i) (x ++ y) (at' (x ++ y) i) = pk ps (sd x y j) (x ++ y) (at' (x ++ y) j) := by
    rw [← h2]
    cases hc : isO (at' (x ++ y) i) with
    | false => exact pk_held hc
    | true =>
      have := h3 hc
      have e : sd x y i = sd x y j := by unfold sd; by_cases c : i < x.length
                                         · rw [if_pos c, if_pos (this.mp c)]
                                         · rw [if_neg c, if_neg fun z => c (this.mpr z)]
      rw [e]
  have e' : pk ps (sd x' y' i) (x' ++ y') (at' (x' ++ y') i) = pk ps (sd x' y' j) (x' ++ y') (at' (x' ++ y') j) := by rw [← ei, ← ej, es]
  have mi : at' (x' ++ y') i ∈ x' ++ y' := at_mem (by rw [List.length_append]; omega)
  have mj : at' (x' ++ y') j ∈ x' ++ y' := at_mem (by rw [List.length_append]; omega)
  refine ⟨hn, ?_, fun z => h3 (oi.trans z)⟩
  have ms : ∀ k, k < x.length + y.length → at' (x' ++ y') k ∈ sd x' y' k := fun k hk => by
    unfold sd
    by_cases c : k < x'.length
    · rw [if_pos c, at_l c]; exact at_mem c
    · obtain ⟨m, rfl⟩ : ∃ m, k = x'.length + m := ⟨k - x'.length, by omega⟩
      rw [if_neg c, at_r (by omega)]; exact at_mem (by omega)
  cases hc : isO (at' (x' ++ y') i) with
  | false =>
    have hcj : isO (at' (x' ++ y') j) = false := by rw [← (mrk_n (pk_mrk e')).2, hc]
    rw [pk_held (a := sd x' y' j) (b := sd x' y' i) hcj] at e'
    exact pk_inj e' mi mj fun z => by rw [hc] at z; cases z
  | true =>
    have := h3 (oi.trans hc)
    have e : sd x' y' j = sd x' y' i := by
      unfold sd
      rw [← hx]
      by_cases c : i < x.length
      · rw [if_pos c, if_pos (this.mp c)]
      · rw [if_neg c, if_neg fun z => c (this.mpr z)]
    have m2 := ms j hj'
    rw [e] at e' m2
    exact pk_inj e' mi mj fun _ => ⟨ms i hi, m2⟩
theorem kl_fwd {x y x' y' : List Hv} (hx : x.length = x'.length) (hy : y.length = y'.length) (h : kl ps x y = kl ps x' y') : alk ps (x ++ y) (x' ++ y') x.length := by
  have h' : ∀ i, i < x.length + y.length → pk ps (sd x y i) (x ++ y) (at' (x ++ y) i) = pk ps (sd x' y' i) (x' ++ y') (at' (x' ++ y') i) := fun i hi => by
    have := kl_at (ps := ps) (x := x) (y := y) hi
    rw [h, kl_at (by omega)] at this
    exact (Option.some.inj this).symm
  intro i hi
  rw [List.length_append] at hi
  refine ⟨pk_mrk (h' i hi), fun j hj => ?_⟩
  rw [Bool.eq_iff_iff]
  refine ⟨lnk_fwd hx hy h' hi hj, fun z => ?_⟩
  have := lnk_fwd (ps := ps) hx.symm hy.symm (fun i hi => (h' i (by omega)).symm) (by omega : i < x'.length + y'.length) hj (by rw [← hx]; exact z)
  rw [hx]; exact this
theorem lnk_no {r : List Hv} {i j s : Nat} (hn : at' r i ≠ .n) (ho : isO (at' r i) = true → (i < s ↔ j < s)) : lnk r i j s = decide (at' r i = at' r j) := by
  unfold lnk
  rw [Bool.eq_iff_iff, decide_eq_true_iff, decide_eq_true_iff]
  exact ⟨fun z => z.2.1, fun z => ⟨hn, z, ho⟩⟩
theorem kl_bwd {x y x' y' : List Hv} (hx : x.length = x'.length) (hy : y.length = y'.length) (h : alk ps (x ++ y) (x' ++ y') x.length) : kl ps x y = kl ps x' y' := by
  refine List.ext_getElem? fun i => ?_
  by_cases hi : i < x.length + y.length
  · have hi' : i < x'.length + y'.length := by omega
    rw [kl_at hi, kl_at hi']
    obtain ⟨h1, h2⟩ := h i (by rw [List.length_append]; exact hi)
    have li : i < (x ++ y).length := by rw [List.length_append]; exact hi
    have li' : i < (x' ++ y').length := by rw [List.length_append]; exact hi'
    obtain ⟨nn, oo⟩ := mrk_n h1
    have key : at' (x ++ y) i ≠ .n → isO (at' (x ++ y) i) = false → (x ++ y).idxOf (at' (x ++ y) i) = (x' ++ y').idxOf (at' (x' ++ y') i) := fun hn ho => by
      refine idx_eq li li' fun j hj => ?_
      have e := h2 j hj
      rw [lnk_no hn (fun z => by rw [ho] at z; cases z), lnk_no (fun z => hn (nn.mpr z)) (fun z => by rw [← oo, ho] at z; cases z)] at e
      rw [Bool.eq_iff_iff, decide_eq_true_iff, decide_eq_true_iff] at e
      exact e
    congr 1
    cases hv : at' (x ++ y) i <;> cases hw : at' (x' ++ y') i <;> rw [hv, hw] at h1 <;> first | (cases h1; done) | skip
    · rfl
    · simp only [pk]
      congr 1
      have hn : at' (x ++ y) i ≠ .n := by rw [hv]; intro z; cases z
      have hn' : at' (x' ++ y') i ≠ .n := by rw [hw]; intro z; cases z
      unfold sd
      by_cases c : i < x.length
      · have c' : i < x'.length := by omega
        rw [if_pos c, if_pos c', ← hv, ← hw, at_l c, at_l c']
        refine idx_eq c c' fun j hj => ?_
        have e := h2 j hj
        rw [lnk_no hn (fun _ => ⟨fun _ => by omega, fun _ => c⟩), lnk_no hn' (fun _ => ⟨fun _ => by omega, fun _ => c⟩)] at e
        rw [Bool.eq_iff_iff, decide_eq_true_iff, decide_eq_true_iff, at_l c, at_l c', at_l (by omega), at_l (by omega)] at e
        exact e
      · have c' : ¬ i < x'.length := by omega
        obtain ⟨m, rfl⟩ : ∃ m, i = x.length + m := ⟨i - x.length, by omega⟩
        have hm : m < y.length := by omega
        have hm' : m < y'.length := by omega
        have r1 : at' (x' ++ y') (x.length + m) = at' y' m := by rw [hx]; exact at_r hm'
        rw [if_neg c, if_neg c', ← hv, ← hw, at_r hm, r1]
        refine idx_eq hm hm' fun j hj => ?_
        have e := h2 (x.length + j) (by omega)
        have r2 : at' (x' ++ y') (x.length + j) = at' y' j := by rw [hx]; exact at_r (by omega)
        rw [lnk_no hn (fun _ => ⟨fun _ => by omega, fun _ => by omega⟩), lnk_no hn' (fun _ => ⟨fun _ => by omega, fun _ => by omega⟩)] at e
        rw [Bool.eq_iff_iff, decide_eq_true_iff, decide_eq_true_iff, at_r hm, at_r (by omega), r1, r2] at e
        exact e
    · rename_i z y0
      simp only [mrk, beq_iff_eq] at h1
      have k := key (by rw [hv]; intro z; cases z) (by rw [hv]; rfl)
      rw [hv, hw] at k
      simp only [pk]
      by_cases hz : z = 0
      · have : y0 = 0 := by rw [decide_eq_true hz] at h1; exact of_decide_eq_true h1.symm
        rw [if_pos hz, if_pos this]
      · have : y0 ≠ 0 := by rw [decide_eq_false hz] at h1; exact of_decide_eq_false h1.symm
        rw [if_neg hz, if_neg this, k]
    · have k := key (by rw [hv]; intro z; cases z) (by rw [hv]; rfl)
      rw [hv, hw] at k
      simp only [mrk, decide_eq_true_eq] at h1
      simp only [pk]
      rw [h1, k]
  · rw [List.getElem?_eq_none (by rw [kl_len]; omega), List.getElem?_eq_none (by rw [kl_len]; omega)]
theorem kl_iff {x y x' y' : List Hv} (hx : x.length = x'.length) (hy : y.length = y'.length) : kl ps x y = kl ps x' y' ↔ alk ps (x ++ y) (x' ++ y') x.length := ⟨kl_fwd hx hy, kl_bwd hx hy⟩
end
end
section
def hD : Hv → D
  | .n => .non
  | .o k => .tup [.str [111, 119, 110], .int k]
  | .i z => .int z
  | .t s => .str s
def okV : Hv → Prop
  | .t s => s ∈ T81
  | _ => True
theorem hw_h {v : Hv} (h : okV v) : Hw (hD v) := by
  cases v with
  | n => exact .non
  | o k => exact .tup k
  | i z => exact .int z
  | t s => exact .str s h
theorem h_of {d : D} (h : Hw d) : ∃ v, okV v ∧ d = hD v := by
  cases h with
  | non => exact ⟨.n, trivial, rfl⟩
  | tup n => exact ⟨.o n, trivial, rfl⟩
  | int i => exact ⟨.i i, trivial, rfl⟩
  | str s hs => exact ⟨.t s, hs, rfl⟩
theorem hs_of : ∀ {xs : List D}, (∀ d ∈ xs, Hw d) → ∃ vs : List Hv, (∀ v ∈ vs, okV v) ∧ xs = vs.map hD
  | [], _ => ⟨[], (fun v h => by cases h), rfl⟩
  | d :: xs, h => by
    obtain ⟨v, h1, rfl⟩ := h_of (h d (List.mem_cons_self ..))
    obtain ⟨vs, h2, rfl⟩ := hs_of fun d hd => h d (List.mem_cons_of_mem _ hd)
    refine ⟨v :: vs, fun w hw => ?_, rfl⟩
    rcases List.mem_cons.mp hw with rfl | z
    · exact h1
    · exact h2 w z
theorem eqB_h (a b : Hv) : eqB (hD a) (hD b) = decide (a = b) := by
  cases a <;> cases b <;> simp [hD, eqB, eqBs]
  all_goals (first | rfl | (rename_i x y; by_cases h : x = y <;> simp [h]))
theorem hs_lay {vs : List Hv} (h : ∀ v ∈ vs, okV v) : PyData.canLayAll0 (pys (vs.map hD)) = true ∧ PyData.depthAll (pys (vs.map hD)) ≤ 2 := lay_all _ fun d hd => by
  obtain ⟨v, hv, rfl⟩ := List.mem_map.mp hd
  exact hw_lay (hw_h (h v hv))
theorem shp_hs {vs : List Hv} (h : ∀ v ∈ vs, okV v) : shp (.lst (vs.map hD)) = true := by
  obtain ⟨a1, a2⟩ := hs_lay h
  simp [shp, SeqAt.shaped, py, PyData.canLay0, PyData.depth, a1]
  omega
theorem shp_h {v : Hv} (h : okV v) : shp (hD v) = true := by
  obtain ⟨a1, a2⟩ := hw_lay (hw_h h)
  simp [shp, SeqAt.shaped, a1]
  omega
theorem idxD_h {v : Hv} : ∀ {L : List Hv}, v ∈ L → idxD (hD v) (L.map hD) = some (L.idxOf v)
  | [], h => by cases h
  | a :: L, h => by
    rw [List.map_cons, idxD, List.idxOf_cons, eqB_h]
    by_cases c : a = v
    · subst c; simp
    · have c' : (a == v) = false := by simp [c]
      rw [c', decide_eq_false c, if_neg Bool.false_ne_true, idxD_h ((List.mem_cons.mp h).resolve_left fun z => c z.symm)]
      simp
theorem ix_h {v : Hv} {L : List Hv} (hL : ∀ v ∈ L, okV v) (h : v ∈ L) : indexLD (.lst (L.map hD)) [hD v] = some (.d (.int (L.idxOf v : Nat))) := by
  show (if (shp (.lst (L.map hD)) && shp (hD v)) = true then (idxD (hD v) (L.map hD)).map fun j => RV.d (.int (j : Nat)) else none) = _
  rw [shp_hs hL, shp_h (hL v h), idxD_h h]
  rfl
def pkD : Pk → D
  | .c w n => .tup [bls w, .int (n : Int)]
  | .own n => .tup [.str [111, 119, 110], .int (n : Int)]
  | .non => .non
  | .zero => .int 0
  | .known n => .tup [.str [107, 110, 111, 119, 110], .int (n : Int)]
def okK : Pk → Prop
  | .c w _ => w.length ≤ 20
  | _ => True
def kiD (a b : List Nat) (ks : List Pk) : D := .tup (.str a :: .str b :: ks.map pkD)
theorem nat_beq (n m : Nat) : ((n : Int) == (m : Int)) = decide (n = m) := by
  rw [Bool.eq_iff_iff, beq_iff_eq, decide_eq_true_iff]; omega
theorem eqB_k (p q : Pk) : eqB (pkD p) (pkD q) = decide (p = q) := by
  cases p <;> cases q <;> simp [pkD, eqB, eqBs, eqBs_bl, nat_beq]
theorem eqBs_k : ∀ a b : List Pk, eqBs (a.map pkD) (b.map pkD) = decide (a = b)
  | [], [] => by rw [List.map_nil, eqBs]; rfl
  | [], _ :: _ => by simp [eqBs]
  | _ :: _, [] => by simp [eqBs]
  | x :: a, y :: b => by
    rw [List.map_cons, List.map_cons, eqBs, eqBs_k a b, eqB_k, Bool.eq_iff_iff, Bool.and_eq_true, decide_eq_true_eq, decide_eq_true_eq, decide_eq_true_eq, List.cons.injEq]
theorem eqB_ki {a b a' b' : List Nat} {ks ks' : List Pk} : eqB (kiD a b ks) (kiD a' b' ks') = decide (a = a' ∧ b = b' ∧ ks = ks') := by
  unfold kiD
  rw [eqB, eqBs, eqBs, eqBs_k, eqB, eqB, Bool.eq_iff_iff]
  simp
theorem lay_k {p : Pk} (h : okK p) : (py (pkD p)).canLay0 = true ∧ (py (pkD p)).depth ≤ 2 := by
  have s1 : PyData.strOk (mk [111, 119, 110]) = true := by decide +kernel
  have s2 : PyData.strOk (mk [107, 110, 111, 119, 110]) = true := by decide +kernel
  cases p with
  | c w n =>
    have g := gd_bls h
    have h1 := g.lay
    have h2 := g.dep
    rw [py] at h1 h2
    simp only [PyData.canLay0, PyData.depth] at h1 h2
    refine ⟨by simp [pkD, py, pys, PyData.canLay0, PyData.canLayAll0, h1], ?_⟩
    simp only [pkD, py, pys, PyData.depth, PyData.depthAll]
    omega
  | own n => exact ⟨by simp [pkD, py, pys, PyData.canLay0, PyData.canLayAll0, s1], by simp [pkD, py, pys, PyData.depth, PyData.depthAll]⟩
  | non => exact ⟨rfl, by decide⟩
  | zero => exact ⟨by simp [pkD, py, PyData.canLay0], by simp [pkD, py, PyData.depth]⟩
  | known n => exact ⟨by simp [pkD, py, pys, PyData.canLay0, PyData.canLayAll0, s2], by simp [pkD, py, pys, PyData.depth, PyData.depthAll]⟩
theorem shp_ki {a b : List Nat} {ks : List Pk} (ha : ab a) (hb : ab b) (hk : ∀ k ∈ ks, okK k) : shp (kiD a b ks) = true := by
  obtain ⟨x1, x2⟩ := lay_all (ks.map pkD) fun d hd => by
    obtain ⟨k, hk', rfl⟩ := List.mem_map.mp hd
    exact lay_k (hk k hk')
  obtain ⟨a1, a2⟩ := ab_lay ha
  obtain ⟨b1, b2⟩ := ab_lay hb
  rw [py] at a1 a2 b1 b2
  simp only [PyData.canLay0] at a1 b1
  unfold shp kiD
  simp [SeqAt.shaped, py, pys, PyData.canLay0, PyData.canLayAll0, PyData.depth, PyData.depthAll, x1, a1, b1]
  omega
theorem eq_ki {a b a' b' : List Nat} {ks ks' : List Pk} (ha : ab a) (hb : ab b) (hk : ∀ k ∈ ks, okK k) (ha' : ab a') (hb' : ab b') (hk' : ∀ k ∈ ks', okK k) : eqD (kiD a b ks) (kiD a' b' ks') = some (.d (.bl (decide (a = a' ∧ b = b' ∧ ks = ks')))) := by
  unfold eqD
  rw [shp_ki ha hb hk, shp_ki ha' hb' hk', eqB_ki]
  simp
def kP : Pk → NestedKey
  | .c w n => .tup [kB w, .num (n : Int)]
  | .own n => .tup [.text (mk [111, 119, 110]), .num (n : Int)]
  | .non => .none
  | .zero => .num 0
  | .known n => .tup [.text (mk [107, 110, 111, 119, 110]), .num (n : Int)]
theorem nk_k (p : Pk) : nkD (pkD p) = some (kP p) := by
  cases p with
  | c w n => rw [pkD, nkD, nkDs, nkDs, nkDs, nk_bls, nkD]; rfl
  | own n => rfl
  | non => rfl
  | zero => rfl
  | known n => rfl
theorem kP_inj (a b : Pk) (h : kP a = kP b) : a = b := by
  have e : (mk [111, 119, 110] : Str) ≠ mk [107, 110, 111, 119, 110] := by decide +kernel
  have e' : (mk [107, 110, 111, 119, 110] : Str) ≠ mk [111, 119, 110] := e.symm
  cases a <;> cases b <;> simp only [kP, kB, NestedKey.tup.injEq, List.cons.injEq, NestedKey.num.injEq, NestedKey.text.injEq, reduceCtorEq, and_true, false_and, and_false, e, e'] at h <;> first | (cases h; done) | rfl | skip
  · have h2 := Int.ofNat_inj.mp h.2
    rename_i w n w' n'
    have h1 : w = w' := kB_inj _ _ (by unfold kB; rw [h.1])
    rw [h1, h2]
  · have h2 := Int.ofNat_inj.mp h.2
    rw [h2]
  · have h2 := Int.ofNat_inj.mp h.2
    rw [h2]
def kiK (a b : List Nat) (ks : List Pk) : NestedKey := .tup (.text (mk a) :: .text (mk b) :: ks.map kP)
theorem nk_ki {a b : List Nat} {ks : List Pk} : nkD (kiD a b ks) = some (kiK a b ks) := by
  unfold kiD kiK
  rw [nkD, nkDs, nkDs, nkDs_map (g := kP) fun p _ => nk_k p, nkD, nkD]
  rfl
theorem ab_mk {a b : List Nat} (ha : ab a) (hb : ab b) (h : (mk a : Str) = mk b) : a = b := by
  have e : (mk [97] : Str) ≠ mk [98] := by decide +kernel
  rcases ha with rfl | rfl <;> rcases hb with rfl | rfl <;> first | rfl | exact absurd h e | exact absurd h.symm e
theorem key_ki {a b a' b' : List Nat} {ks ks' : List Pk} (ha : ab a) (hb : ab b) (ha' : ab a') (hb' : ab b') : keyU (kiD a b ks) (kiD a' b' ks') = decide (a = a' ∧ b = b' ∧ ks = ks') := by
  rw [keyU_dec nk_ki nk_ki, Bool.eq_iff_iff, decide_eq_true_iff, decide_eq_true_iff]
  constructor
  · intro h
    unfold kiK at h
    injection h with h
    injection h with h1 h
    injection h with h2 h
    injection h1 with h1
    injection h2 with h2
    exact ⟨ab_mk ha ha' h1, ab_mk hb hb' h2, map_inj' kP_inj h⟩
  · rintro ⟨rfl, rfl, rfl⟩
    rfl
end
section
theorem okI_h {v : Hv} : okI (hD v) = true := by cases v <;> rfl
theorem ev_part {ps : List (List Nat)} {held tog : List Hv} {v : Hv} {ks vs : List D} (hh : ∀ v ∈ held, okV v) (ht : ∀ v ∈ tog, okV v) (mh : v ∈ held) (mt : v ∈ tog) (hc : ∀ s, v = .t s → atD ks vs (.str s) = some (bls (clB ps s))) :
    ∃ o, m_part_of_kind [.d (.dct ks vs), .d (hD v), .d (.lst (held.map hD)), .d (.lst (tog.map hD))] = some (.ok (.d (pkD (pk ps held tog v))) o) := by
  have : wF (m_part_of_kind [.d (.dct ks vs), .d (hD v), .d (.lst (held.map hD)), .d (.lst (tog.map hD))]) (fun u _ => u = .d (pkD (pk ps held tog v))) nX := by
    refine w_defM rfl (by fail "S") ?_
    unfold b_part_of_kind
    have i1 := ix_h hh mh
    have i2 := ix_h ht mt
    have ok := okI_h (v := v)
    have sv := shp_h (ht v mt)
    obtain ⟨o, ow⟩ := ev_isown (hw_h (ht v mt))
    generalize (held.map hD) = HE at *
    generalize (tog.map hD) = TO at *
    cases v with
    | t s =>
      have gk : getK (.dct ks vs) (.str s) = some (.d (bls (clB ps s))) := by
        show (if isK (.str s) = true then (atD ks vs (.str s)).map RV.d else none) = _
        rw [hc s rfl]; rfl
      have e : pkD (pk ps held tog (.t s)) = .tup [bls (clB ps s), .int ((tog.idxOf (.t s) : Nat) : Int)] := rfl
      rw [e]
      generalize D.dct ks vs = CD at *
      generalize bls (clB ps s) = BS at *
      generalize ((tog.idxOf (.t s) : Nat) : Int) = IX at *
      have t1 : isiD "str" (hD (.t s)) = true := rfl
      have gk : getK CD (hD (.t s)) = some (.d BS) := gk
      generalize hD (.t s) = V at *
      clear ow
      (repeat' fail "V")
      rfl
    | o k =>
      have e : pkD (pk ps held tog (.o k)) = .tup [.str [111, 119, 110], .int ((held.idxOf (.o k) : Nat) : Int)] := rfl
      rw [e]
      generalize D.dct ks vs = CD at *
      generalize ((held.idxOf (.o k) : Nat) : Int) = IX at *
      have t1 : isiD "str" (hD (.o k)) = false := rfl
      have t2 : isTp (hD (.o k)) = true := rfl
      rw [t2] at ow
      generalize hD (.o k) = V at *
      (repeat' fail "V")
      rfl
    | n =>
      have e : pkD (pk ps held tog .n) = .non := rfl
      rw [e]
      generalize D.dct ks vs = CD at *
      have t1 : isiD "str" (hD .n) = false := rfl
      have t2 : isTp (hD .n) = false := rfl
      have t3 : isD (hD .n) .non = some (.d (.bl true)) := rfl
      have t4 : hD .n = .non := rfl
      rw [t2] at ow
      generalize hD .n = V at *
      clear i1 i2
      (repeat' fail "V")
      rw [t4]
    | i z =>
      have e : pkD (pk ps held tog (.i z)) = if z = 0 then hD (.i z) else .tup [.str [107, 110, 111, 119, 110], .int ((tog.idxOf (.i z) : Nat) : Int)] := by
        show pkD (if z = 0 then .zero else .known (tog.idxOf (.i z))) = _
        by_cases h : z = 0
        · rw [if_pos h, if_pos h, h]; rfl
        · rw [if_neg h, if_neg h]; rfl
      rw [e]
      generalize D.dct ks vs = CD at *
      generalize ((tog.idxOf (.i z) : Nat) : Int) = IX at *
      have t1 : isiD "str" (hD (.i z)) = false := rfl
      have t2 : isTp (hD (.i z)) = false := rfl
      have t3 : isD (hD (.i z)) .non = some (.d (.bl false)) := rfl
      have t5 : eqD (hD (.i z)) (.int 0) = some (.d (.bl (decide (z = 0)))) := by
        show eqD (.int z) (.int 0) = _
        rw [Dw.eq_int]; rfl
      rw [t2] at ow
      clear i1 e
      generalize hD (.i z) = V at *
      (repeat' fail "V")
      · intro h
        (repeat' fail "V")
        rw [if_pos (of_decide_eq_true h)]
      · intro h
        (repeat' fail "V")
        rw [if_neg (of_decide_eq_false h)]
  obtain ⟨a, o, h1, rfl⟩ := wF_get this
  exact ⟨o, h1⟩
end
section
theorem w_compG {α : Type} {d g : α → D} {vs : List Nat} {tg : Tg} {fe : SE} (J : Sl → Prop) : ∀ {l : List α} {e0 : Sl} {acc : List D}, acc.length + l.length ≤ 100000 → J e0 → (∀ x ∈ l, ∀ e, J e → ∃ e1, putT tg (d x) e = some e1 ∧ wE fe e1 (fun u e2 => ∃ e3, frz u e2 = some (g x, e3) ∧ J (clr vs e3)) nE) →
    ∃ e', compD vs tg none fe (l.map d) acc e0 = some (acc ++ l.map g, e') ∧ J e'
  | [], e0, acc, _, h0, _ => ⟨e0, by rw [List.map_nil, List.map_nil, List.append_nil]; rfl, h0⟩
  | x :: l, e0, acc, hl, h0, h => by
    rw [List.length_cons] at hl
    obtain ⟨e1, h1, h2⟩ := h x (List.mem_cons_self ..) e0 h0
    obtain ⟨a, e2, h3, e3, h4, h5⟩ := wE_get h2
    obtain ⟨e', g1, g2⟩ := w_compG J (l := l) (e0 := clr vs e3) (acc := acc ++ [g x]) (by rw [List.length_append, List.length_singleton]; omega) h5 fun y hy => h y (List.mem_cons_of_mem _ hy)
    refine ⟨e', ?_, g2⟩
    rw [List.map_cons, compD, h1, Option.bind_some]
    show (eltD fe e1).bind _ = _
    unfold eltD
    rw [h3]
    dsimp only
    rw [h4, Option.bind_some, if_pos (by omega)]
    refine g1.trans ?_
    rw [List.append_assoc]
    rfl
structure PV where
  a : List Nat
  x : List Hv
  b : List Nat
  y : List Hv
def toPr (q : PV) : Pr := ⟨q.a, q.x.map hD, q.b, q.y.map hD⟩
structure OkPV (q : PV) : Prop where
  a : ab q.a
  b : ab q.b
  x : ∀ v ∈ q.x, okV v
  y : ∀ v ∈ q.y, okV v
  xl : q.x.length ≤ 3
  yl : q.y.length ≤ 3
theorem OkPV.row {q : PV} (h : OkPV q) : ∀ v ∈ q.x ++ q.y, okV v := fun v hv => by
  rcases List.mem_append.mp hv with z | z
  · exact h.x v z
  · exact h.y v z
def kiP (ps : List (List Nat)) (q : PV) : D := kiD q.a q.b (kl ps q.x q.y)
theorem ev_kw {ps : List (List Nat)} {q : PV} {ks vs : List D} (h : OkPV q) (hc : ∀ s, Hv.t s ∈ q.x ++ q.y → atD ks vs (.str s) = some (bls (clB ps s))) :
    ∃ o, m_kind_with [.d (.dct ks vs), .d (prD (toPr q))] = some (.ok (.d (kiP ps q)) o) := by
  have : wF (m_kind_with [.d (.dct ks vs), .d (prD (toPr q))]) (fun u _ => u = .d (kiP ps q)) nX := by
    refine w_defM rfl (by fail "S") ?_
    unfold b_kind_with
    obtain ⟨qa, qx, qb, qy⟩ := q
    have xl : qx.length ≤ 3 := h.xl
    have yl : qy.length ≤ 3 := h.yl
    have hr := h.row
    have hx := h.x
    have hy := h.y
    dsimp only at hc hr hx hy
    have ad : addD (.lst (qx.map hD)) (.lst (qy.map hD)) = some (.own (.lst ((qx ++ qy).map hD))) := by
      rw [List.map_append]
      exact add_lst (by rw [List.length_map, List.length_map]; omega)
    have cmp : ∀ (fe : SE) (side : List Hv) (l : List Hv) (s2 : SV), (s2 = .own false (.lst ((qx ++ qy).map hD)) ∨ s2 = .d (.lst ((qx ++ qy).map hD))) → (fe = e_kind_with_2 ∧ l = qx ∧ side = qx ∨ fe = e_kind_with_1 ∧ l = qy ∧ side = qy) → ∃ s2' : SV, (s2' = .own false (.lst ((qx ++ qy).map hD)) ∨ s2' = .d (.lst ((qx ++ qy).map hD))) ∧ compD [7] (.nm 7) none fe (l.map hD) [] [.d (.dct ks vs), .d (prD (toPr ⟨qa, qx, qb, qy⟩)), s2, .d (.str qa), .d (.lst (qx.map hD)), .d (.str qb), .d (.lst (qy.map hD)), .un] = some (l.map fun v => pkD (pk ps side (qx ++ qy) v), [.d (.dct ks vs), .d (prD (toPr ⟨qa, qx, qb, qy⟩)), s2', .d (.str qa), .d (.lst (qx.map hD)), .d (.str qb), .d (.lst (qy.map hD)), .un]) := by
      intro fe side l s2 h2 hs
      have := w_compG (d := hD) (g := fun v => pkD (pk ps side (qx ++ qy) v)) (vs := [7]) (tg := .nm 7) (fe := fe) (fun e => ∃ s2 : SV, (s2 = .own false (.lst ((qx ++ qy).map hD)) ∨ s2 = .d (.lst ((qx ++ qy).map hD))) ∧ e = [.d (.dct ks vs), .d (prD (toPr ⟨qa, qx, qb, qy⟩)), s2, .d (.str qa), .d (.lst (qx.map hD)), .d (.str qb), .d (.lst (qy.map hD)), .un])
        (l := l) (e0 := [.d (.dct ks vs), .d (prD (toPr ⟨qa, qx, qb, qy⟩)), s2, .d (.str qa), .d (.lst (qx.map hD)), .d (.str qb), .d (.lst (qy.map hD)), .un]) (acc := []) (by rcases hs with ⟨_, rfl, _⟩ | ⟨_, rfl, _⟩ <;> simp only [List.length_nil] <;> omega) ⟨_, h2, rfl⟩ ?_
      · obtain ⟨e', h3, s2', h4, rfl⟩ := this
        exact ⟨s2', h4, by simpa using h3⟩
      rintro v hv _ ⟨s2, h2, rfl⟩
      have mt : v ∈ qx ++ qy := by rcases hs with ⟨_, rfl, _⟩ | ⟨_, rfl, _⟩ <;> simp [hv]
      obtain ⟨o, ep⟩ := ev_part (ps := ps) (held := side) (tog := qx ++ qy) (v := v) (ks := ks) (vs := vs) (by rcases hs with ⟨_, _, rfl⟩ | ⟨_, _, rfl⟩ <;> assumption) hr (by rcases hs with ⟨_, rfl, rfl⟩ | ⟨_, rfl, rfl⟩ <;> exact hv) mt (fun s e => hc s (e ▸ mt))
      refine ⟨[.d (.dct ks vs), .d (prD (toPr ⟨qa, qx, qb, qy⟩)), s2, .d (.str qa), .d (.lst (qx.map hD)), .d (.str qb), .d (.lst (qy.map hD)), .d (hD v)], put_nm rfl rfl, ?_⟩
      rcases hs with ⟨rfl, rfl, rfl⟩ | ⟨rfl, rfl, rfl⟩
      · unfold e_kind_with_2
        generalize pkD (pk ps side (side ++ qy) v) = PK at *
        generalize hD v = V at *
        generalize (side ++ qy).map hD = T at *
        generalize prD (toPr ⟨qa, side, qb, qy⟩) = PD at *
        generalize side.map hD = X at *
        generalize D.dct ks vs = CD at *
        rcases h2 with rfl | rfl <;> (repeat' fail "V") <;> exact ⟨_, rfl, _, .inr rfl, rfl⟩
      · unfold e_kind_with_1
        generalize pkD (pk ps side (qx ++ side) v) = PK at *
        generalize hD v = V at *
        generalize (qx ++ side).map hD = T at *
        generalize prD (toPr ⟨qa, qx, qb, side⟩) = PD at *
        generalize side.map hD = X at *
        generalize D.dct ks vs = CD at *
        rcases h2 with rfl | rfl <;> (repeat' fail "V") <;> exact ⟨_, rfl, _, .inr rfl, rfl⟩
    obtain ⟨s3, h3, c1⟩ := cmp _ _ _ _ (.inl rfl) (.inl ⟨rfl, rfl, rfl⟩)
    obtain ⟨s4, h4, c2⟩ := cmp _ _ _ _ h3 (.inr ⟨rfl, rfl, rfl⟩)
    clear cmp
    have ek : kiP ps ⟨qa, qx, qb, qy⟩ = .tup (.str qa :: .str qb :: ((qx.map fun v => pkD (pk ps qx (qx ++ qy) v)) ++ (qy.map fun v => pkD (pk ps qy (qx ++ qy) v)))) := by
      unfold kiP kiD kl
      rw [List.map_append, List.map_map, List.map_map]
      rfl
    rw [ek]
    have l1 : (qx.map fun v => pkD (pk ps qx (qx ++ qy) v)).length ≤ 3 := by rw [List.length_map]; exact xl
    have l2 : (qy.map fun v => pkD (pk ps qy (qx ++ qy) v)).length ≤ 3 := by rw [List.length_map]; exact yl
    generalize (qx.map fun v => pkD (pk ps qx (qx ++ qy) v)) = KX at *
    generalize (qy.map fun v => pkD (pk ps qy (qx ++ qy) v)) = KY at *
    have hp : prD (toPr ⟨qa, qx, qb, qy⟩) = .tup [.tup [.str qa, .lst (qx.map hD)], .tup [.str qb, .lst (qy.map hD)]] := rfl
    refine w_seqP (fun e => e = [.d (.dct ks vs), .d (prD (toPr ⟨qa, qx, qb, qy⟩)), .un, .d (.str qa), .d (.lst (qx.map hD)), .d (.str qb), .d (.lst (qy.map hD)), .un]) ?_ ?_
    · rw [hp]
      generalize qx.map hD = X at *
      generalize qy.map hD = Y at *
      generalize D.dct ks vs = CD at *
      clear ek c1 c2
      (repeat' fail "V")
      rfl
    rintro _ rfl
    generalize (qx ++ qy).map hD = T at *
    have itX : itemsD (.lst (qx.map hD)) = some (qx.map hD) := rfl
    have itY : itemsD (.lst (qy.map hD)) = some (qy.map hD) := rfl
    generalize qx.map hD = X at *
    generalize qy.map hD = Y at *
    generalize D.dct ks vs = CD at *
    generalize prD (toPr ⟨qa, qx, qb, qy⟩) = PD at *
    (repeat' fail "V")
    refine w_comp1 (env2 := [.d CD, .d PD, s3, .d (.str qa), .d (.lst X), .d (.str qb), .d (.lst Y), .un]) c1 rfl ?_
    rcases h3 with rfl | rfl
    all_goals
      (repeat' fail "V")
      refine w_comp1 (env2 := [.d CD, .d PD, s4, .d (.str qa), .d (.lst X), .d (.str qb), .d (.lst Y), .un]) c2 rfl ?_
      clear c1 c2
      rcases h4 with rfl | rfl
      all_goals
        (repeat' fail "V")
        rw [List.append_nil]
  obtain ⟨a, o, h1, rfl⟩ := wF_get this
  exact ⟨o, h1⟩
theorem ev_kind {ps : List (List Nat)} {q : PV} (hp : ps.length ≤ 4 ∧ ∀ p ∈ ps, p ∈ menu4) (h : OkPV q) : ∃ o, m_kind_of [.d (.lst (sL ps)), .d (prD (toPr q))] = some (.ok (.d (kiP ps q)) o) := by
  have : wF (m_kind_of [.d (.lst (sL ps)), .d (prD (toPr q))]) (fun u _ => u = .d (kiP ps q)) nX := by
    refine w_defM rfl (by fail "S") ?_
    unfold b_kind_of
    obtain ⟨ks, vs, o, e1, e2⟩ := ev_cls (ps := ps) (p := toPr q) hp (fun d hd => by
      obtain ⟨v, hv, rfl⟩ := List.mem_map.mp hd
      exact hw_h (h.x v hv)) (fun d hd => by
      obtain ⟨v, hv, rfl⟩ := List.mem_map.mp hd
      exact hw_h (h.y v hv)) (by show (q.x.map hD).length ≤ 3; rw [List.length_map]; exact h.xl) (by show (q.y.map hD).length ≤ 3; rw [List.length_map]; exact h.yl)
    obtain ⟨o2, e3⟩ := ev_kw (ps := ps) (ks := ks) (vs := vs) h fun s hs => e2 s (by
      show D.str s ∈ q.x.map hD ++ q.y.map hD
      rw [← List.map_append]
      exact List.mem_map.mpr ⟨.t s, hs, rfl⟩)
    generalize D.lst (sL ps) = LP at *
    generalize prD (toPr q) = PD at *
    generalize kiP ps q = KP at *
    (repeat' fail "V")
    rfl
  obtain ⟨a, o, h1, rfl⟩ := wF_get this
  exact ⟨o, h1⟩
end
section
theorem ev_alikeP {ps : List (List Nat)} {p q : PV} (hp : ps.length ≤ 4 ∧ ∀ p ∈ ps, p ∈ menu4) (h1 : OkPV p) (h2 : OkPV q) (k1 : ∀ k ∈ kl ps p.x p.y, okK k) (k2 : ∀ k ∈ kl ps q.x q.y, okK k) :
    ∃ o, m_alike [.d (.lst (sL ps)), .d (prD (toPr p)), .d (prD (toPr q))] = some (.ok (.d (.bl (decide (p.a = q.a ∧ p.b = q.b ∧ kl ps p.x p.y = kl ps q.x q.y)))) o) := by
  have : wF (m_alike [.d (.lst (sL ps)), .d (prD (toPr p)), .d (prD (toPr q))]) (fun u _ => u = .d (.bl (decide (p.a = q.a ∧ p.b = q.b ∧ kl ps p.x p.y = kl ps q.x q.y)))) nX := by
    refine w_defM rfl (by fail "S") ?_
    unfold b_alike
    obtain ⟨o1, e1⟩ := ev_kind hp h1
    obtain ⟨o2, e2⟩ := ev_kind hp h2
    have eq : eqD (kiP ps p) (kiP ps q) = _ := eq_ki h1.a h1.b k1 h2.a h2.b k2
    generalize decide (p.a = q.a ∧ p.b = q.b ∧ kl ps p.x p.y = kl ps q.x q.y) = B at *
    generalize D.lst (sL ps) = LP at *
    generalize prD (toPr p) = PD at *
    generalize prD (toPr q) = QD at *
    generalize kiP ps p = KP at *
    generalize kiP ps q = KQ at *
    (repeat' fail "V")
    rfl
  obtain ⟨a, o, h1, rfl⟩ := wF_get this
  exact ⟨o, h1⟩
def srt : Hv → Int
  | .n => 0
  | .t _ => 1
  | .i _ => 2
  | .o _ => 3
theorem ev_sort (v : Hv) : ∃ o, m_ulawusort [.d (hD v)] = some (.ok (.d (.int (srt v))) o) := by
  have : wF (m_ulawusort [.d (hD v)]) (fun u _ => u = .d (.int (srt v))) nX := by
    refine w_defM rfl (by fail "S") ?_
    unfold b_ulawusort
    have ok := okI_h (v := v)
    have t1 : isD (hD v) .non = some (.d (.bl (decide (srt v = 0)))) := by cases v <;> rfl
    have t2 : isiD "tuple" (hD v) = decide (srt v = 3) := by cases v <;> rfl
    have t3 : isiD "str" (hD v) = decide (srt v = 1) := by cases v <;> rfl
    have t4 : srt v = 0 ∨ srt v = 1 ∨ srt v = 2 ∨ srt v = 3 := by cases v <;> simp [srt]
    generalize hD v = V at *
    generalize srt v = S at *
    rcases t4 with rfl | rfl | rfl | rfl
    · have t1 : isD V .non = some (.d (.bl true)) := t1
      (repeat' fail "V")
      rfl
    · have t1 : isD V .non = some (.d (.bl false)) := t1
      have t2 : isiD "tuple" V = false := t2
      have t3 : isiD "str" V = true := t3
      (repeat' fail "V")
      rfl
    · have t1 : isD V .non = some (.d (.bl false)) := t1
      have t2 : isiD "tuple" V = false := t2
      have t3 : isiD "str" V = false := t3
      (repeat' fail "V")
      rfl
    · have t1 : isD V .non = some (.d (.bl false)) := t1
      have t2 : isiD "tuple" V = true := t2
      (repeat' fail "V")
      rfl
  obtain ⟨a, o, h1, rfl⟩ := wF_get this
  exact ⟨o, h1⟩
theorem srt_mrk {ps : List (List Nat)} {v w : Hv} (h : srt v ≠ srt w) : mrk ps v w = false := by
  cases v <;> cases w <;> first | rfl | exact absurd rfl h
theorem ev_mark {ps : List (List Nat)} {v w : Hv} (hp : ps.length ≤ 4 ∧ ∀ p ∈ ps, p ∈ menu4) (hv : okV v) (hw : okV w) : ∃ o, m_ulawusameumark [.d (.lst (sL ps)), .d (hD v), .d (hD w)] = some (.ok (.d (.bl (mrk ps v w))) o) := by
  have : wF (m_ulawusameumark [.d (.lst (sL ps)), .d (hD v), .d (hD w)]) (fun u _ => u = .d (.bl (mrk ps v w))) nX := by
    refine w_defM rfl (by fail "S") ?_
    unfold b_ulawusameumark
    obtain ⟨o1, s1⟩ := ev_sort v
    obtain ⟨o2, s2⟩ := ev_sort w
    have ok := okI_h (v := v)
    by_cases hs : srt v = srt w
    · have ne : neD (.int (srt v)) (.int (srt w)) = some (.d (.bl false)) := by rw [Dw.ne_int, hs, beq_self_eq_true]; rfl
      cases v with
      | t s =>
        cases w with
        | t u =>
          obtain ⟨o3, e3⟩ := ev_lc (t := s) hp hv
          obtain ⟨o4, e4⟩ := ev_lc (t := u) hp hw
          have eq := eq_blsL (a := clB ps s) (b := clB ps u) (by rw [clB_len]; have := hp.1; omega) (by rw [clB_len]; have := hp.1; omega)
          have t1 : isiD "str" (hD (.t s)) = true := rfl
          have em : mrk ps (.t s) (.t u) = decide (clB ps s = clB ps u) := rfl
          rw [em]
          have e3 : m_ulawuclass [.d (.lst (sL ps)), .d (hD (.t s))] = _ := e3
          have e4 : m_ulawuclass [.d (.lst (sL ps)), .d (hD (.t u))] = _ := e4
          generalize decide (clB ps s = clB ps u) = B at *
          generalize (clB ps s).map D.bl = CS at *
          generalize (clB ps u).map D.bl = CU at *
          generalize D.lst (sL ps) = LP at *
          generalize hD (.t s) = V at *
          generalize hD (.t u) = U at *
          generalize srt (.t s) = S1 at *
          generalize srt (.t u) = S2 at *
          (repeat' fail "V")
          rfl
        | _ => cases hs
      | i z =>
        cases w with
        | i y =>
          have t1 : isiD "str" (hD (.i z)) = false := rfl
          have e1 : eqD (hD (.i z)) (.int 0) = some (.d (.bl (decide (z = 0)))) := by
            show eqD (.int z) (.int 0) = _
            rw [Dw.eq_int]; rfl
          have e2 : eqD (hD (.i y)) (.int 0) = some (.d (.bl (decide (y = 0)))) := by
            show eqD (.int y) (.int 0) = _
            rw [Dw.eq_int]; rfl
          have e3 : eqD (.bl (decide (z = 0))) (.bl (decide (y = 0))) = some (.d (.bl (decide (z = 0) == decide (y = 0)))) := Dw.eq_bl
          have e4 : eqD (.int (srt (.i z))) (.int 2) = some (.d (.bl true)) := rfl
          have em : mrk ps (.i z) (.i y) = (decide (z = 0) == decide (y = 0)) := rfl
          rw [em]
          generalize (decide (z = 0) == decide (y = 0)) = B at *
          generalize decide (z = 0) = B1 at *
          generalize decide (y = 0) = B2 at *
          generalize D.lst (sL ps) = LP at *
          generalize hD (.i z) = V at *
          generalize hD (.i y) = U at *
          generalize srt (.i z) = S1 at *
          generalize srt (.i y) = S2 at *
          (repeat' fail "V")
          rfl
        | _ => cases hs
      | n =>
        cases w with
        | n =>
          have t1 : isiD "str" (hD .n) = false := rfl
          have e4 : eqD (.int (srt .n)) (.int 2) = some (.d (.bl false)) := rfl
          have em : mrk ps .n .n = true := rfl
          rw [em]
          generalize D.lst (sL ps) = LP at *
          generalize hD .n = V at *
          generalize srt .n = S1 at *
          (repeat' fail "V")
          rfl
        | _ => cases hs
      | o k =>
        cases w with
        | o l =>
          have t1 : isiD "str" (hD (.o k)) = false := rfl
          have e4 : eqD (.int (srt (.o k))) (.int 2) = some (.d (.bl false)) := rfl
          have em : mrk ps (.o k) (.o l) = true := rfl
          rw [em]
          generalize D.lst (sL ps) = LP at *
          generalize hD (.o k) = V at *
          generalize hD (.o l) = U at *
          generalize srt (.o k) = S1 at *
          generalize srt (.o l) = S2 at *
          (repeat' fail "V")
          rfl
        | _ => cases hs
    · have ne : neD (.int (srt v)) (.int (srt w)) = some (.d (.bl true)) := by
        rw [Dw.ne_int]
        have : (srt v == srt w) = false := by simp [hs]
        rw [this]; rfl
      rw [srt_mrk hs]
      generalize D.lst (sL ps) = LP at *
      generalize hD v = V at *
      generalize hD w = U at *
      generalize srt v = S1 at *
      generalize srt w = S2 at *
      (repeat' fail "V")
      rfl
  obtain ⟨a, o, h1, rfl⟩ := wF_get this
  exact ⟨o, h1⟩
theorem eqD_h {v w : Hv} (hv : okV v) (hw : okV w) : eqD (hD v) (hD w) = some (.d (.bl (decide (v = w)))) := by
  unfold eqD
  rw [shp_h hv, shp_h hw, eqB_h]
  simp
theorem get_h {row : List Hv} {i : Nat} (h : i < row.length) : getD (.lst (row.map hD)) (.int (i : Int)) = some (.d (hD (at' row i))) := by
  rw [at_lt h]
  have := atI_nat (xs := row.map hD) (j := i) (by rw [List.length_map]; exact h)
  rw [get_lst this, List.getElem_map]
theorem ev_link {row : List Hv} (hr : ∀ v ∈ row, okV v) {i j s : Nat} (hi : i < row.length) (hj : j < row.length) : ∃ o, m_ulawulinked [.d (.lst (row.map hD)), .d (.int (i : Int)), .d (.int (j : Int)), .d (.int (s : Int))] = some (.ok (.d (.bl (lnk row i j s))) o) := by
  have : wF (m_ulawulinked [.d (.lst (row.map hD)), .d (.int (i : Int)), .d (.int (j : Int)), .d (.int (s : Int))]) (fun u _ => u = .d (.bl (lnk row i j s))) nX := by
    refine w_defM rfl (by fail "S") ?_
    unfold b_ulawulinked lnk
    have g1 := get_h hi
    have g2 := get_h hj
    have ei := eqD_h (hr _ (at_mem hi)) (hr _ (at_mem hj))
    have l1 : ltG (.int (i : Int)) (.int (s : Int)) = some (.d (.bl (decide (i < s)))) := by rw [Dw.lt_int']; congr 3; simp
    have l2 : ltG (.int (j : Int)) (.int (s : Int)) = some (.d (.bl (decide (j < s)))) := by rw [Dw.lt_int']; congr 3; simp
    have l3 : neD (.bl (decide (i < s))) (.bl (decide (j < s))) = some (.d (.bl (!(decide (i < s) == decide (j < s))))) := Dw.ne_bl
    generalize (row.map hD) = R at *
    generalize at' row i = v at *
    generalize at' row j = w at *
    obtain ⟨o1, s1⟩ := ev_sort v
    obtain ⟨o2, s2⟩ := ev_sort w
    have t1 : isD (hD v) .non = some (.d (.bl (decide (v = .n)))) := by cases v <;> rfl
    have ne : neD (.int (srt v)) (.int (srt w)) = some (.d (.bl (!(srt v == srt w)))) := Dw.ne_int
    have e3 : eqD (.int (srt v)) (.int 3) = some (.d (.bl (isO v))) := by cases v <;> rfl
    have hn : v = w → srt v = srt w := fun e => by rw [e]
    generalize hD v = V at *
    generalize hD w = U at *
    generalize hA : (!(srt v == srt w)) = A at *
    generalize hB : (!(decide (i < s) == decide (j < s))) = B at *
    generalize hC : decide (v = .n) = C at *
    generalize hE : decide (v = w) = E at *
    generalize hF : isO v = F at *
    generalize srt v = S1 at *
    generalize srt w = S2 at *
    generalize hI : decide (i < s) = I at *
    generalize hJ : decide (j < s) = J at *
    have key : decide (v ≠ .n ∧ v = w ∧ (F = true → (i < s ↔ j < s))) = (!C && !A && !(F && B) && E) := by
      rw [Bool.eq_iff_iff, decide_eq_true_iff]
      subst hA hB hC hE hI hJ
      simp only [Bool.and_eq_true, Bool.not_eq_true', decide_eq_false_iff_not, Bool.not_eq_false', beq_iff_eq, Bool.and_eq_false_iff, decide_eq_true_iff]
      constructor
      · rintro ⟨h1, h2, h3⟩
        refine ⟨⟨⟨h1, hn h2⟩, ?_⟩, h2⟩
        cases hf : F with
        | false => exact .inl rfl
        | true => exact .inr (by have := h3 hf; simp [this])
      · rintro ⟨⟨⟨h1, h2⟩, h3⟩, h4⟩
        refine ⟨h1, h4, fun hf => ?_⟩
        rcases h3 with z | z
        · rw [hf] at z; cases z
        · have z : decide (i < s) = decide (j < s) := by simpa using z
          exact ⟨fun q => of_decide_eq_true (z ▸ decide_eq_true q), fun q => of_decide_eq_true (z.symm ▸ decide_eq_true q)⟩
    rw [key]
    clear key hn hA hB hC hE hF hI hJ
    cases C with
    | true =>
      (repeat' fail "V")
      rfl
    | false =>
      cases A with
      | true =>
        (repeat' fail "V")
        rfl
      | false =>
        cases F with
        | false =>
          (repeat' fail "V")
          cases E <;> rfl
        | true =>
          cases B with
          | true =>
            (repeat' fail "V")
            rfl
          | false =>
            (repeat' fail "V")
            cases E <;> rfl
  obtain ⟨a, o, h1, rfl⟩ := wF_get this
  exact ⟨o, h1⟩
end
section
def frL (L : List D) (s : SV) : Prop := s = .own false (.lst L) ∨ s = .d (.lst L)
theorem ev_lalike {ps : List (List Nat)} {p q : PV} (hp : ps.length ≤ 4 ∧ ∀ p ∈ ps, p ∈ menu4) (h1 : OkPV p) (h2 : OkPV q) (xl : p.x.length = q.x.length) (yl : p.y.length = q.y.length) :
    ∃ B : Bool, (B = true ↔ p.a = q.a ∧ p.b = q.b ∧ alk ps (p.x ++ p.y) (q.x ++ q.y) p.x.length) ∧ ∃ o, m_ulawualike [.d (.lst (sL ps)), .d (prD (toPr p)), .d (prD (toPr q))] = some (.ok (.d (.bl B)) o) := by
  have : wF (m_ulawualike [.d (.lst (sL ps)), .d (prD (toPr p)), .d (prD (toPr q))]) (fun u _ => ∃ B : Bool, u = .d (.bl B) ∧ (B = true ↔ p.a = q.a ∧ p.b = q.b ∧ alk ps (p.x ++ p.y) (q.x ++ q.y) p.x.length)) nX := by
    refine w_defM rfl (by fail "S") ?_
    unfold b_ulawualike
    have hr := h1.row
    have hr' := h2.row
    have xs := h1.xl
    have ys := h1.yl
    have xs' := h2.xl
    have ys' := h2.yl
    obtain ⟨a, x, b, y⟩ := p
    obtain ⟨a', x', b', y'⟩ := q
    dsimp only at *
    have a1 := p0 (p := toPr ⟨a, x, b, y⟩); have a2 := p1 (p := toPr ⟨a, x, b, y⟩); have a3 := p00 (p := toPr ⟨a, x, b, y⟩); have a4 := p01 (p := toPr ⟨a, x, b, y⟩); have a5 := p10 (p := toPr ⟨a, x, b, y⟩); have a6 := p11 (p := toPr ⟨a, x, b, y⟩)
    have b1 := p0 (p := toPr ⟨a', x', b', y'⟩); have b2 := p1 (p := toPr ⟨a', x', b', y'⟩); have b3 := p00 (p := toPr ⟨a', x', b', y'⟩); have b4 := p01 (p := toPr ⟨a', x', b', y'⟩); have b5 := p10 (p := toPr ⟨a', x', b', y'⟩); have b6 := p11 (p := toPr ⟨a', x', b', y'⟩)
    unfold toPr at a1 a2 a3 a4 a5 a6 b1 b2 b3 b4 b5 b6
    dsimp only at a1 a2 a3 a4 a5 a6 b1 b2 b3 b4 b5 b6
    unfold toPr
    dsimp only
    have n1 : neD (.str a) (.str a') = some (.d (.bl (!(a == a')))) := Dw.ne_str
    have n2 : neD (.str b) (.str b') = some (.d (.bl (!(b == b')))) := Dw.ne_str
    have ad : addD (.lst (x.map hD)) (.lst (y.map hD)) = some (.own (.lst ((x ++ y).map hD))) := by
      rw [List.map_append]
      exact add_lst (by rw [List.length_map, List.length_map]; omega)
    have ad' : addD (.lst (x'.map hD)) (.lst (y'.map hD)) = some (.own (.lst ((x' ++ y').map hD))) := by
      rw [List.map_append]
      exact add_lst (by rw [List.length_map, List.length_map]; omega)
    have rl : (x ++ y).length = x.length + y.length := List.length_append
    have rl' : (x' ++ y').length = x'.length + y'.length := List.length_append
    have ln : lenD [.lst (x.map hD)] = some (.d (.int (x.length : Int))) := by rw [Dw.len_lst, List.length_map]
    have lr : ((x ++ y).map hD).length = x.length + y.length := by rw [List.length_map, rl]
    have hrng : rng1 [.int ((x.length + y.length : Nat) : Int)] = some ((List.range (x.length + y.length)).map fun i => .int (i : Nat)) := rng1_nat (by omega)
    generalize hPD : prD ⟨a, x.map hD, b, y.map hD⟩ = PD at *
    generalize hQD : prD ⟨a', x'.map hD, b', y'.map hD⟩ = QD at *
    by_cases ea : a = a'
    · by_cases eb : b = b'
      · have n1 : neD (.str a) (.str a') = some (.d (.bl false)) := by rw [n1, ea, beq_self_eq_true]; rfl
        have n2 : neD (.str b) (.str b') = some (.d (.bl false)) := by rw [n2, eb, beq_self_eq_true]; rfl
        generalize hR : (x ++ y).map hD = R at *
        generalize hR' : (x' ++ y').map hD = R' at *
        generalize x.map hD = X at *
        generalize y.map hD = Y at *
        generalize x'.map hD = X' at *
        generalize y'.map hD = Y' at *
        refine w_seqP3 (fun e => e = [.d (.lst (sL ps)), .d PD, .d QD, .own false (.lst R), .own false (.lst R'), .un, .un, .un]) ?_ ?_
        · generalize D.lst (sL ps) = LP at *
          (repeat' fail "V")
          rfl
        rintro _ rfl
        refine w_seqP (fun e => e = [.d (.lst (sL ps)), .d PD, .d QD, .own false (.lst R), .own false (.lst R'), .d (.int (x.length : Int)), .un, .un]) ?_ ?_
        · generalize D.lst (sL ps) = LP at *
          (repeat' fail "V")
          rfl
        rintro _ rfl
        have lro : R.length = x.length + y.length := lr
        refine w_seqP (fun e => ∃ s3 s4 s6 s7, e = [.d (.lst (sL ps)), .d PD, .d QD, s3, s4, .d (.int (x.length : Int)), s6, s7] ∧ alk ps (x ++ y) (x' ++ y') x.length) ?_ ?_
        · have hrR : rng1 [.int (R.length : Int)] = some ((List.range (x.length + y.length)).map fun i => .int (i : Nat)) := by rw [lro]; exact hrng
          clear n1 n2 a1 a2 a3 a4 a5 a6 b1 b2 b3 b4 b5 b6 ad ad' ln hPD hQD
          generalize hLP : D.lst (sL ps) = LP at *
          (repeat' fail "V")
          subst hLP
          refine w_loopR (fun k e => ∃ s3 s4 s6 s7, frL R s3 ∧ frL R' s4 ∧ freeSlot (some s6) = true ∧ freeSlot (some s7) = true ∧ e = [.d (.lst (sL ps)), .d PD, .d QD, s3, s4, .d (.int (x.length : Int)), s6, s7] ∧ ∀ i, i < k → mrk ps (at' (x ++ y) i) (at' (x' ++ y') i) = true ∧ ∀ j, j < i → lnk (x ++ y) i j x.length = lnk (x' ++ y') i j x.length) ⟨_, _, _, _, .inl rfl, .inl rfl, rfl, rfl, rfl, fun i hi => absurd hi (Nat.not_lt_zero i)⟩ ?_ ?_
          · rintro k _ hk ⟨s3, s4, s6, s7, f3, f4, f6, f7, rfl, hB⟩
            refine ⟨[.d (.lst (sL ps)), .d PD, .d QD, s3, s4, .d (.int (x.length : Int)), .d (.int (k : Nat)), s7], put_nm f6 rfl, ?_⟩
            unfold l_ulawualike_2
            have hkr : k < (x ++ y).length := by omega
            have hkr' : k < (x' ++ y').length := by omega
            obtain ⟨o1, em⟩ := ev_mark (ps := ps) hp (hr _ (at_mem hkr)) (hr' _ (at_mem hkr'))
            have g1 := get_h hkr
            have g2 := get_h hkr'
            rw [hR] at g1
            rw [hR'] at g2
            cases hm : mrk ps (at' (x ++ y) k) (at' (x' ++ y') k) with
            | false =>
              rw [hm] at em
              have no : ¬ alk ps (x ++ y) (x' ++ y') x.length := fun z => by
                have := (z k hkr).1
                rw [hm] at this; cases this
              generalize hD (at' (x ++ y) k) = V at *
              generalize hD (at' (x' ++ y') k) = W at *
              generalize D.lst (sL ps) = LP at *
              rcases f3 with rfl | rfl <;> rcases f4 with rfl | rfl
              all_goals
                (repeat' fail "V")
                exact ⟨false, rfl, ⟨fun z => (by cases z), fun z => (no z.2.2).elim⟩⟩
            | true =>
              rw [hm] at em
              have hrk : rng1 [.int (k : Int)] = some ((List.range k).map fun i => .int (i : Nat)) := rng1_nat (by omega)
              refine w_seqP (fun e => ∃ s3 s4, frL R s3 ∧ frL R' s4 ∧ e = [.d (.lst (sL ps)), .d PD, .d QD, s3, s4, .d (.int (x.length : Int)), .d (.int (k : Nat)), s7]) ?_ ?_
              · generalize hD (at' (x ++ y) k) = V at *
                generalize hD (at' (x' ++ y') k) = W at *
                generalize D.lst (sL ps) = LP at *
                rcases f3 with rfl | rfl <;> rcases f4 with rfl | rfl
                · (repeat' fail "V")
                  exact ⟨_, _, .inl rfl, .inl rfl, rfl⟩
                · (repeat' fail "V")
                  exact ⟨_, _, .inl rfl, .inr rfl, rfl⟩
                · (repeat' fail "V")
                  exact ⟨_, _, .inr rfl, .inl rfl, rfl⟩
                · (repeat' fail "V")
                  exact ⟨_, _, .inr rfl, .inr rfl, rfl⟩
              rintro _ ⟨s3, s4, f3, f4, rfl⟩
              clear em g1 g2
              generalize hLP : D.lst (sL ps) = LP at *
              (repeat' fail "V")
              refine w_loopR (fun j e => ∃ s3 s4 s7, frL R s3 ∧ frL R' s4 ∧ freeSlot (some s7) = true ∧ e = [.d LP, .d PD, .d QD, s3, s4, .d (.int (x.length : Int)), .d (.int (k : Nat)), s7] ∧ ∀ i, i < j → lnk (x ++ y) k i x.length = lnk (x' ++ y') k i x.length) ⟨_, _, _, f3, f4, f7, rfl, fun i hi => absurd hi (Nat.not_lt_zero i)⟩ ?_ ?_
              · rintro j _ hj ⟨s3, s4, s7, f3, f4, f7, rfl, hC⟩
                refine ⟨[.d LP, .d PD, .d QD, s3, s4, .d (.int (x.length : Int)), .d (.int (k : Nat)), .d (.int (j : Nat))], put_nm f7 rfl, ?_⟩
                unfold l_ulawualike_1
                obtain ⟨o2, e2⟩ := ev_link hr (i := k) (j := j) (s := x.length) hkr (by omega)
                obtain ⟨o3, e3⟩ := ev_link hr' (i := k) (j := j) (s := x.length) hkr' (by omega)
                rw [hR] at e2
                rw [hR'] at e3
                have ne : neD (.bl (lnk (x ++ y) k j x.length)) (.bl (lnk (x' ++ y') k j x.length)) = some (.d (.bl (!(lnk (x ++ y) k j x.length == lnk (x' ++ y') k j x.length)))) := Dw.ne_bl
                by_cases he : lnk (x ++ y) k j x.length = lnk (x' ++ y') k j x.length
                · have ne : neD (.bl (lnk (x ++ y) k j x.length)) (.bl (lnk (x' ++ y') k j x.length)) = some (.d (.bl false)) := by rw [ne, he, beq_self_eq_true]; rfl
                  have hC' : ∀ i, i < j + 1 → lnk (x ++ y) k i x.length = lnk (x' ++ y') k i x.length := fun i hi => by
                    rcases Nat.lt_succ_iff_lt_or_eq.mp hi with z | rfl
                    · exact hC i z
                    · exact he
                  generalize lnk (x ++ y) k j x.length = B1 at *
                  generalize lnk (x' ++ y') k j x.length = B2 at *
                  clear hB hrk hrng
                  rcases f3 with rfl | rfl <;> rcases f4 with rfl | rfl
                  all_goals
                    (repeat' fail "V")
                    exact ⟨_, _, _, .inr rfl, .inr rfl, rfl, rfl, hC'⟩
                · have ne : neD (.bl (lnk (x ++ y) k j x.length)) (.bl (lnk (x' ++ y') k j x.length)) = some (.d (.bl true)) := by
                    rw [ne]
                    have : (lnk (x ++ y) k j x.length == lnk (x' ++ y') k j x.length) = false := by simp [he]
                    rw [this]; rfl
                  have no : ¬ alk ps (x ++ y) (x' ++ y') x.length := fun z => he ((z k hkr).2 j hj)
                  generalize lnk (x ++ y) k j x.length = B1 at *
                  generalize lnk (x' ++ y') k j x.length = B2 at *
                  clear hB hrk hrng
                  rcases f3 with rfl | rfl <;> rcases f4 with rfl | rfl
                  all_goals
                    (repeat' fail "V")
                    exact ⟨false, rfl, ⟨fun z => (by cases z), fun z => (no z.2.2).elim⟩⟩
              · rintro _ ⟨s3, s4, s7, f3, f4, f7, rfl, hC⟩
                refine ⟨_, _, _, _, f3, f4, rfl, f7, rfl, fun i hi => ?_⟩
                rcases Nat.lt_succ_iff_lt_or_eq.mp hi with z | rfl
                · exact hB i z
                · exact ⟨hm, hC⟩
          · rintro _ ⟨s3, s4, s6, s7, f3, f4, f6, f7, rfl, hB⟩
            exact ⟨_, _, _, _, rfl, fun i hi => hB i (by omega)⟩
        rintro _ ⟨s3, s4, s6, s7, rfl, hA⟩
        generalize D.lst (sL ps) = LP at *
        (repeat' fail "V")
        exact ⟨true, rfl, ⟨fun _ => ⟨ea, eb, hA⟩, fun _ => rfl⟩⟩
      · have n2 : neD (.str b) (.str b') = some (.d (.bl true)) := by
          rw [n2]
          have : (b == b') = false := by simp [eb]
          rw [this]; rfl
        have n1 : neD (.str a) (.str a') = some (.d (.bl false)) := by rw [n1, ea, beq_self_eq_true]; rfl
        generalize x.map hD = X at *
        generalize y.map hD = Y at *
        generalize x'.map hD = X' at *
        generalize y'.map hD = Y' at *
        generalize D.lst (sL ps) = LP at *
        (repeat' fail "V")
        exact ⟨false, rfl, ⟨fun z => (by cases z), fun z => (eb z.2.1).elim⟩⟩
    · have n1 : neD (.str a) (.str a') = some (.d (.bl true)) := by
        rw [n1]
        have : (a == a') = false := by simp [ea]
        rw [this]; rfl
      generalize x.map hD = X at *
      generalize y.map hD = Y at *
      generalize x'.map hD = X' at *
      generalize y'.map hD = Y' at *
      generalize D.lst (sL ps) = LP at *
      (repeat' fail "V")
      exact ⟨false, rfl, ⟨fun z => (by cases z), fun z => (ea z.1).elim⟩⟩
  obtain ⟨u, o, h1, B, rfl, h2⟩ := wF_get this
  exact ⟨B, h2, o, h1⟩
end
section
def exh (s : Int) : Hv → Hv
  | .n => .n
  | .t u => .t u
  | .i z => if z = 0 then .i 0 else .i (-5 * z - s)
  | .o k => .o (11 - k + s)
theorem okV_ex {s : Int} {v : Hv} (h : okV v) : okV (exh s v) := by
  cases v with
  | i z =>
    show okV (if z = 0 then .i 0 else .i (-5 * z - s))
    by_cases c : z = 0
    · rw [if_pos c]; trivial
    · rw [if_neg c]; trivial
  | t u => exact h
  | _ => trivial
theorem b64m : big64 (-5) = true := okP_iff.mpr (by decide)
theorem ev_exch {v : Hv} {s : Int} : ∃ o, m_ulawuexchanged [.d (hD v), .d (.int s)] = some (.ok (.d (hD (exh s v))) o) := by
  have : wF (m_ulawuexchanged [.d (hD v), .d (.int s)]) (fun u _ => u = .d (hD (exh s v))) nX := by
    refine w_defM rfl (by fail "S") ?_
    unfold b_ulawuexchanged
    have ok := okI_h (v := v)
    cases v with
    | n =>
      have t1 : isD (hD .n) .non = some (.d (.bl true)) := rfl
      have e : hD (exh s .n) = hD .n := rfl
      rw [e]
      generalize hD .n = V at *
      (repeat' fail "V")
      rfl
    | t u =>
      have t1 : isD (hD (.t u)) .non = some (.d (.bl false)) := rfl
      have t2 : isiD "str" (hD (.t u)) = true := rfl
      have e : hD (exh s (.t u)) = hD (.t u) := rfl
      rw [e]
      generalize hD (.t u) = V at *
      (repeat' fail "V")
      rfl
    | o k =>
      have t1 : isD (hD (.o k)) .non = some (.d (.bl false)) := rfl
      have t2 : isiD "str" (hD (.o k)) = false := rfl
      have t3 : eqD (hD (.o k)) (.int 0) = some (.d (.bl false)) := by
        have := eqD_h (v := .o k) (w := .i 0) trivial trivial
        rw [decide_eq_false (fun z => by cases z)] at this
        exact this
      have t4 : isiD "tuple" (hD (.o k)) = true := rfl
      have g : getD (hD (.o k)) (.int 1) = some (.d (.int k)) := rfl
      have e : hD (exh s (.o k)) = .tup [.str [111, 119, 110], .int (11 - k + s)] := rfl
      rw [e]
      generalize hD (.o k) = V at *
      (repeat' fail "V")
      rfl
    | i z =>
      have t1 : isD (hD (.i z)) .non = some (.d (.bl false)) := rfl
      have t2 : isiD "str" (hD (.i z)) = false := rfl
      have t4 : isiD "tuple" (hD (.i z)) = false := rfl
      have t3 : eqD (hD (.i z)) (.int 0) = some (.d (.bl (decide (z = 0)))) := by
        show eqD (.int z) (.int 0) = _
        rw [Dw.eq_int]; rfl
      have m5 : mulD (.int (-5)) (hD (.i z)) = some (.d (.int (-5 * z))) := mul_l b64m
      by_cases c : z = 0
      · have t3 : eqD (hD (.i z)) (.int 0) = some (.d (.bl true)) := by rw [t3, decide_eq_true c]
        have e : hD (exh s (.i z)) = hD (.i z) := by
          show hD (if z = 0 then .i 0 else .i (-5 * z - s)) = _
          rw [if_pos c, c]
        rw [e]
        generalize hD (.i z) = V at *
        (repeat' fail "V")
        rfl
      · have t3 : eqD (hD (.i z)) (.int 0) = some (.d (.bl false)) := by rw [t3, decide_eq_false c]
        have e : hD (exh s (.i z)) = .int (-5 * z - s) := by
          show hD (if z = 0 then .i 0 else .i (-5 * z - s)) = _
          rw [if_neg c]; rfl
        rw [e]
        generalize hD (.i z) = V at *
        (repeat' fail "V")
        rfl
  obtain ⟨a, o, h1, rfl⟩ := wF_get this
  exact ⟨o, h1⟩
def exh2 (s : Int) : Hv → Hv
  | .o k => .o (k + 2 * s)
  | v => exh s v
theorem okV_ex2 {s : Int} {v : Hv} (h : okV v) : okV (exh2 s v) := by
  cases v with
  | o k => trivial
  | t u => exact h
  | n => trivial
  | i z => exact okV_ex (v := .i z) h
def twn (s : Int) (q : PV) : PV := ⟨q.a, q.x.map (exh s), q.b, q.y.map (exh2 s)⟩
theorem ok_twn {q : PV} {s : Int} (h : OkPV q) : OkPV (twn s q) := ⟨h.a, h.b, fun v hv => by
    obtain ⟨w, hw, rfl⟩ := List.mem_map.mp hv
    exact okV_ex (h.x w hw), fun v hv => by
    obtain ⟨w, hw, rfl⟩ := List.mem_map.mp hv
    exact okV_ex2 (h.y w hw), by show (q.x.map (exh s)).length ≤ 3; rw [List.length_map]; exact h.xl, by show (q.y.map (exh2 s)).length ≤ 3; rw [List.length_map]; exact h.yl⟩
end
section
theorem ev_twin {q : PV} {s : Int} (h : OkPV q) : ∃ o, m_ulawutwin [.d (prD (toPr q)), .d (.int s)] = some (.ok (.d (pairT (.str q.a) (.str q.b) (q.x.map fun v => hD (exh s v)) (q.y.map fun v => hD (exh2 s v)))) o) := by
  have : wF (m_ulawutwin [.d (prD (toPr q)), .d (.int s)]) (fun u _ => u = .d (pairT (.str q.a) (.str q.b) (q.x.map fun v => hD (exh s v)) (q.y.map fun v => hD (exh2 s v)))) nX := by
    refine w_defM rfl (by fail "S") ?_
    unfold b_ulawutwin
    have xs := h.xl
    have ys := h.yl
    obtain ⟨a, x, b, y⟩ := q
    dsimp only at xs ys ⊢
    have a1 := p0 (p := toPr ⟨a, x, b, y⟩); have a2 := p1 (p := toPr ⟨a, x, b, y⟩); have a3 := p00 (p := toPr ⟨a, x, b, y⟩); have a4 := p01 (p := toPr ⟨a, x, b, y⟩); have a5 := p10 (p := toPr ⟨a, x, b, y⟩); have a6 := p11 (p := toPr ⟨a, x, b, y⟩)
    unfold toPr at a1 a2 a3 a4 a5 a6
    dsimp only at a1 a2 a3 a4 a5 a6
    unfold toPr
    dsimp only
    have m2 : mulD (.int 2) (.int s) = some (.d (.int (2 * s))) := mul_l b64e
    have itX : itemsD (.lst (x.map hD)) = some (x.map hD) := rfl
    have itY : itemsD (.lst (y.map hD)) = some (y.map hD) := rfl
    generalize hPD : prD ⟨a, x.map hD, b, y.map hD⟩ = PD at *
    refine w_seqP (fun e => e = [.d PD, .d (.int s), .own false (.lst (x.map fun v => hD (exh s v))), .un, .un]) ?_ ?_
    · have cmp := w_compM (vs := [4]) (tg := .nm 4) (fe := e_ulawutwin_1) (d := hD) (g := fun v => hD (exh s v)) (l := x) (e0 := [.d PD, .d (.int s), .un, .un, .un]) (by omega) fun v hv => by
        obtain ⟨o, e⟩ := ev_exch (v := v) (s := s)
        refine ⟨[.d PD, .d (.int s), .un, .un, .d (hD v)], put_nm rfl rfl, ?_⟩
        unfold e_ulawutwin_1
        generalize hD (exh s v) = R at *
        generalize hD v = V at *
        (repeat' fail "V")
        exact ⟨_, rfl, rfl⟩
      generalize (x.map fun v => hD (exh s v)) = RX at *
      generalize x.map hD = X at *
      generalize y.map hD = Y at *
      clear hPD
      (repeat' fail "V")
      refine w_comp1 (env2 := [.d PD, .d (.int s), .un, .un, .un]) cmp rfl ?_
      (repeat' fail "V")
      rfl
    rintro _ rfl
    have lx : (x.map fun v => hD (exh s v)).length ≤ 3 := by rw [List.length_map]; exact xs
    generalize (x.map fun v => hD (exh s v)) = RX at *
    clear hPD
    refine w_seqP2 (fun e => ∃ w4, freeSlot (some w4) = true ∧ e = [.d PD, .d (.int s), .own false (.lst RX), .own false (.lst (y.map fun v => hD (exh2 s v))), w4]) ?_ ?_
    · (repeat' fail "V")
      refine w_loopM (d := hD) (l := y) (fun pre e => ∃ w4, freeSlot (some w4) = true ∧ e = [.d PD, .d (.int s), .own false (.lst RX), .own false (.lst (pre.map fun v => hD (exh2 s v))), w4]) ⟨_, rfl, rfl⟩ ?_ ?_
      · rintro pre v suf _ e ⟨w4, f4, rfl⟩
        refine ⟨[.d PD, .d (.int s), .own false (.lst RX), .own false (.lst (pre.map fun v => hD (exh2 s v))), .d (hD v)], put_nm f4 rfl, ?_⟩
        unfold l_ulawutwin_2
        have pl : (pre.map fun v => hD (exh2 s v)).length ≤ 3 := by
          rw [List.length_map]
          rw [e, List.length_append] at ys
          omega
        have em : ((pre ++ [v]).map fun v => hD (exh2 s v)) = (pre.map fun v => hD (exh2 s v)) ++ [hD (exh2 s v)] := by rw [List.map_append]; rfl
        rw [em]
        generalize (pre.map fun v => hD (exh2 s v)) = A at *
        have key : isiD "tuple" (hD v) = false → hD (exh2 s v) = hD (exh s v) := fun t => by
          cases v with
          | o k => cases t
          | _ => rfl
        have ok := okI_h (v := v)
        obtain ⟨o, ee⟩ := ev_exch (v := v) (s := s)
        cases ht : isiD "tuple" (hD v) with
        | true =>
          have hv : ∃ k, v = .o k := by
            cases v with
            | o k => exact ⟨k, rfl⟩
            | _ => cases ht
          obtain ⟨k, rfl⟩ := hv
          have g : getD (hD (.o k)) (.int 1) = some (.d (.int k)) := rfl
          have er : hD (exh2 s (.o k)) = .tup [.str [111, 119, 110], .int (k + 2 * s)] := rfl
          rw [er]
          clear key em er ee
          generalize hD (.o k) = V at *
          (repeat' fail "V")
          exact ⟨_, rfl, rfl⟩
        | false =>
          rw [key ht]
          clear key em
          generalize hD (exh s v) = R at *
          generalize hD v = V at *
          (repeat' fail "V")
          exact ⟨_, rfl, rfl⟩
      · rintro _ ⟨w4, f4, rfl⟩
        exact ⟨_, f4, rfl⟩
    rintro _ ⟨w4, f4, rfl⟩
    generalize (y.map fun v => hD (exh2 s v)) = RY at *
    generalize x.map hD = X at *
    generalize y.map hD = Y at *
    refine w_retTT ?_
    (repeat' fail "V")
    refine ⟨_, rfl, _, _, rfl, ?_⟩
    (repeat' fail "V")
    exact ⟨_, rfl, _, _, rfl, _, _, rfl, rfl, rfl⟩
  obtain ⟨a, o, h1, rfl⟩ := wF_get this
  exact ⟨o, h1⟩
theorem noLs_h : ∀ vs : List Hv, noLs (vs.map hD) = true
  | [] => rfl
  | v :: vs => by
    show (noL (hD v) && noLs (vs.map hD)) = true
    rw [noLs_h vs, Bool.and_true]
    cases v <;> rfl
theorem gp_pv {l r : Nat} {p : Pr} (h : GP l r p) (hl : l < 4) (hr : r < 4) : ∃ t : PV, p = toPr t ∧ OkPV t ∧ t.x.length = l ∧ t.y.length = r := by
  obtain ⟨x', hx', ex⟩ := hs_of fun d hd => hw_of (h.x d hd)
  obtain ⟨y', hy', ey⟩ := hs_of fun d hd => hw_of (h.y d hd)
  have ha := h.a
  have hb := h.b
  have xl := h.xl
  have yl := h.yl
  obtain ⟨pa, px, pb, py⟩ := p
  dsimp only at ex ey ha hb xl yl
  subst ex ey
  rw [List.length_map] at xl yl
  exact ⟨⟨pa, x', pb, y'⟩, rfl, ⟨ha, hb, hx', hy', by show x'.length ≤ 3; omega, by show y'.length ≤ 3; omega⟩, xl, yl⟩
end
section
theorem ixN_nat {n m : Nat} (h : m < n) : ixN n (m : Int) = some m := by
  unfold ixN
  simp [h]
theorem ev_row {ns : List Int} (hl : ns.length ≤ 63) {c : Nat} {L : List Hv} (h3 : L.length ≤ 3) (hL : ∀ v ∈ L, okV v) {Q : List D → Sl → Prop} (hQ : ∀ L' : List Hv, (∀ v ∈ L', okV v) → L'.length = L.length → Q (L'.map hD) [.d (iL ns), .un, .un, .un, .d (.int (c : Int)), .un, .own false (.lst (L'.map hD))]) :
    wS (iteS (andE (two (op2 eqD) (varE 4) (constE (.int 1))) (two (op2 gtD) (callE lenD (consA (varE 6) nilA)) (constE (.int 0)))) (setL 6 (callD m_ulawudraw [] (consA (varE 0) (consA (constE (.int 63)) (consA (callE lenD (consA (varE 6) nilA)) nilA)))) (callD m_ulawusome [] (consA (varE 0) (consA (constE (.int 64)) nilA)))) skipS)
      [.d (iL ns), .un, .un, .un, .d (.int (c : Int)), .un, .own false (.lst (L.map hD))] (fun e4 => ∃ b0 L', e4[6]? = some (.own b0 (.lst L')) ∧ Q L' e4) nKs := by
  have ll : (L.map hD).length = L.length := List.length_map ..
  (repeat' fail "V")
  · intro _
    (repeat' fail "V")
    · intro hz
      have hpos : 0 < L.length := by
        have := of_decide_eq_true hz
        omega
      (repeat' fail "V")
      refine wC_some hl fun d hd => ?_
      obtain ⟨v, hv, rfl⟩ := h_of (hw_of hd)
      refine ⟨_, _, _, _, rfl, rfl, ?_⟩
      (repeat' fail "V")
      refine wC_drw hl (by omega) fun j hj => ?_
      refine ⟨_, _, _, _, _, rfl, rfl, ixN_nat (by omega), rfl, _, _, rfl, ?_⟩
      have es : (L.map hD).set j (hD v) = (L.set j v).map hD := by rw [List.map_set]
      rw [es]
      refine hQ _ (fun w hw => ?_) (List.length_set ..)
      rcases List.mem_or_eq_of_mem_set hw with z | rfl
      · exact hL w z
      · exact hv
    · intro _
      exact ⟨_, _, rfl, hQ L hL rfl⟩
  · intro _
    (repeat' fail "V")
    exact ⟨_, _, rfl, hQ L hL rfl⟩
theorem ev_other {ns : List Int} (hl : ns.length ≤ 63) {q : PV} {l r : Nat} (h2l : l < 4) (h2r : r < 4) (h : OkPV q) (xl : q.x.length = l) (yl : q.y.length = r) :
    wF (m_ulawuother [.d (iL ns), .d (prD (toPr q)), .d (.int (l : Int)), .d (.int (r : Int))]) (fun u _ => ∃ d, u = .d d ∧ ∃ t : PV, d = prD (toPr t) ∧ OkPV t ∧ t.x.length = l ∧ t.y.length = r) nX := by
  refine w_defM rfl (by fail "S") ?_
  unfold b_ulawuother
  refine w_seqP (fun e => ∃ c : Nat, e = [.d (iL ns), .d (prD (toPr q)), .d (.int (l : Int)), .d (.int (r : Int)), .d (.int (c : Int)), .un, .un]) ?_ ?_
  · generalize prD (toPr q) = PD at *
    (repeat' fail "V")
    refine wC_drw hl (by decide) fun c hc => ?_
    (repeat' fail "V")
    exact ⟨c, rfl⟩
  rintro _ ⟨c, rfl⟩
  refine w_seqP (fun e => e = [.d (iL ns), .d (prD (toPr q)), .d (.int (l : Int)), .d (.int (r : Int)), .d (.int (c : Int)), .un, .un]) ?_ ?_
  · generalize prD (toPr q) = PD at *
    (repeat' fail "V")
    · intro _
      (repeat' fail "V")
      refine wC_d (ev_pair hl h2l h2r) fun d hd => ?_
      obtain ⟨p, gp, rfl⟩ := hd
      (repeat' fail "V")
      obtain ⟨t, rfl, t2⟩ := gp_pv gp h2l h2r
      exact ⟨_, rfl, t, rfl, t2⟩
    · intro _
      (repeat' fail "V")
      rfl
  rintro _ rfl
  refine w_start ?_
  have et := fun s : Int => ev_twin (s := s) h
  have oks := fun s : Int => ok_twn (s := s) h
  have e0 : ∀ s : Int, (q.x.map fun v => hD (exh s v)) = (twn s q).x.map hD := fun s => by unfold twn; rw [List.map_map]; rfl
  have e1 : ∀ s : Int, (q.y.map fun v => hD (exh2 s v)) = (twn s q).y.map hD := fun s => by unfold twn; rw [List.map_map]; rfl
  have x1 : ∀ s : Int, (twn s q).x.length = l := fun s => by unfold twn; rw [List.length_map]; exact xl
  have y1 : ∀ s : Int, (twn s q).y.length = r := fun s => by unfold twn; rw [List.length_map]; exact yl
  generalize prD (toPr q) = PD at *
  (repeat' fail "V")
  refine wC_drw hl (by decide) fun s hs => ?_
  obtain ⟨o, e⟩ := et (s : Int)
  have ok := oks (s : Int)
  have x1 := x1 (s : Int)
  have y1 := y1 (s : Int)
  rw [e0, e1, show q.a = (twn (s : Int) q).a from rfl, show q.b = (twn (s : Int) q).b from rfl] at e
  clear et oks e0 e1
  generalize twn (s : Int) q = t at *
  generalize hT : pairT (.str t.a) (.str t.b) (t.x.map hD) (t.y.map hD) = T at *
  (repeat' fail "V")
  refine ⟨_, rfl, ?_⟩
  (repeat' fail "V")
  subst hT
  refine w_twoM rfl rfl rfl (noLs_h _) (noLs_h _) ?_
  generalize hT : pairT (.str t.a) (.str t.b) (t.x.map hD) (t.y.map hD) = T at *
  (repeat' fail "V")
  refine wC_drw hl (by decide) fun z hz => ?_
  have z01 : z = 0 ∨ z = 1 := by omega
  subst hT
  rcases z01 with rfl | rfl
  · refine ⟨0, rfl, .inl rfl, show (6 : Nat) < 7 from by decide, ?_⟩
    have i0 : (if (0 : Int) = 0 then t.x.map hD else t.y.map hD) = t.x.map hD := if_pos rfl
    rw [i0]
    refine ev_row hl (by omega) ok.x fun L' h1 h2 => ?_
    refine ⟨_, _, rfl, rfl, _, rfl, ⟨t.a, L', t.b, t.y⟩, ?_, ⟨ok.a, ok.b, h1, ok.y, by show L'.length ≤ 3; omega, ok.yl⟩, by show L'.length = l; omega, y1⟩
    rw [if_pos rfl]
    rfl
  · refine ⟨1, rfl, .inr rfl, show (6 : Nat) < 7 from by decide, ?_⟩
    have i0 : (if (1 : Int) = 0 then t.x.map hD else t.y.map hD) = t.y.map hD := if_neg (by decide)
    rw [i0]
    refine ev_row hl (by omega) ok.y fun L' h1 h2 => ?_
    refine ⟨_, _, rfl, rfl, _, rfl, ⟨t.a, t.x, t.b, L'⟩, ?_, ⟨ok.a, ok.b, ok.x, h1, ok.xl, by show L'.length ≤ 3; omega⟩, x1, by show L'.length = r; omega⟩
    rw [if_neg (by decide)]
    rfl
end
section
theorem dep_allN (n : Nat) : ∀ ks : List NestedKey, (∀ k ∈ ks, k.depth ≤ n) → NestedKey.depthAll ks ≤ n
  | [], _ => Nat.zero_le _
  | k :: ks, h => by
    have h1 := h k (List.mem_cons_self ..)
    have h2 := dep_allN n ks fun x hx => h x (List.mem_cons_of_mem _ hx)
    rw [NestedKey.depthAll]
    exact Nat.max_le.mpr ⟨h1, h2⟩
theorem dep_kP (k : Pk) : (kP k).depth ≤ 4 := by
  cases k with
  | c w n =>
    have : NestedKey.depthAll (w.map fun b => NestedKey.num (if b = true then 1 else 0)) ≤ 1 := dep_allN 1 _ fun k hk => by
      obtain ⟨l, _, rfl⟩ := List.mem_map.mp hk
      simp [NestedKey.depth]
    simp only [kP, kB, NestedKey.depth, NestedKey.depthAll]
    omega
  | own n => simp [kP, NestedKey.depth, NestedKey.depthAll]
  | non => simp [kP, NestedKey.depth]
  | zero => simp [kP, NestedKey.depth]
  | known n => simp [kP, NestedKey.depth, NestedKey.depthAll]
theorem ok_ki {ps : List (List Nat)} {q : PV} : okKU (kiP ps q) = true := by
  have e : okKU (kiP ps q) = (match nkD (kiP ps q) with | some q => decide (q.depth ≤ 8) | none => false) := rfl
  rw [e]
  unfold kiP
  rw [nk_ki]
  refine decide_eq_true ?_
  unfold kiK
  have := dep_allN 4 ((kl ps q.x q.y).map kP) fun k hk => by
    obtain ⟨l, _, rfl⟩ := List.mem_map.mp hk
    exact dep_kP l
  simp only [NestedKey.depth, NestedKey.depthAll]
  omega
theorem okK_pk {ps : List (List Nat)} (hp : ps.length ≤ 4) {h r : List Hv} {v : Hv} : okK (pk ps h r v) := by
  cases v with
  | t s =>
    show (clB ps s).length ≤ 20
    rw [clB_len]; omega
  | o k => trivial
  | n => trivial
  | i z =>
    show okK (if z = 0 then .zero else .known (r.idxOf (.i z)))
    by_cases c : z = 0
    · rw [if_pos c]; trivial
    · rw [if_neg c]; trivial
theorem okK_kl {ps : List (List Nat)} (hp : ps.length ≤ 4) {x y : List Hv} : ∀ k ∈ kl ps x y, okK k := fun k hk => by
  unfold kl at hk
  rcases List.mem_append.mp hk with z | z
  all_goals
    obtain ⟨v, _, rfl⟩ := List.mem_map.mp z
    exact okK_pk hp
theorem has_ki {ps : List (List Nat)} {p q : PV} (h1 : OkPV p) (h2 : OkPV q) : hasU [kiP ps p] (kiP ps q) = decide (p.a = q.a ∧ p.b = q.b ∧ kl ps p.x p.y = kl ps q.x q.y) := by
  unfold hasU
  rw [List.any_cons, List.any_nil, Bool.or_false]
  exact key_ki h1.a h1.b h2.a h2.b
theorem prW {q : PV} (h : OkPV q) : PrW (toPr q) := ⟨h.a, h.b, fun d hd => by
    obtain ⟨v, hv, rfl⟩ := List.mem_map.mp hd
    exact hw_h (h.x v hv), fun d hd => by
    obtain ⟨v, hv, rfl⟩ := List.mem_map.mp hd
    exact hw_h (h.y v hv)⟩
theorem main (ns : List Int) (hl : ns.length ≤ 63) : ∃ o, m_law [.d (.lst (ns.map .int))] = some (.ok (.d (.bl true)) o) := by
  have : wF (m_law [.d (iL ns)]) (fun u _ => u = .d (.bl true)) nX := by
    refine w_defM rfl (by fail "S") ?_
    unfold b_law
    refine w_seqP (fun e => ∃ m, m ∈ mw ∧ e = [.d (iL ns), .own false (.lst (sL m.1)), .un, .un, .un, .un, .un, .un, .un, .un, .un, .un, .un]) ?_ ?_
    · (repeat' fail "V")
      refine wC_nx (ev_menu hl) ?_
      rintro _ _ ⟨m, hm, rfl⟩
      refine ⟨_, rfl, ?_⟩
      (repeat' fail "V")
      exact ⟨m, hm, rfl⟩
    rintro _ ⟨m, hm, rfl⟩
    have hp := m_ok hm
    generalize m.1 = ps at *
    clear hm
    refine w_seqP2 (fun e => ∃ l r : Nat, l < 4 ∧ r < 4 ∧ e = [.d (iL ns), .own false (.lst (sL ps)), .d (.int (l : Int)), .d (.int (r : Int)), .un, .un, .un, .un, .un, .un, .un, .un, .un]) ?_ ?_
    · generalize sL ps = LP at *
      (repeat' fail "V")
      refine wC_drw hl (by decide) fun l hl4 => ?_
      (repeat' fail "V")
      refine wC_drw hl (by decide) fun r hr4 => ?_
      (repeat' fail "V")
      exact ⟨l, r, by omega, by omega, rfl⟩
    rintro _ ⟨l, r, h4l, h4r, rfl⟩
    refine w_seqP2 (fun e => ∃ p q : PV, OkPV p ∧ OkPV q ∧ p.x.length = q.x.length ∧ p.y.length = q.y.length ∧ e = [.d (iL ns), .own false (.lst (sL ps)), .d (.int (l : Int)), .d (.int (r : Int)), .d (prD (toPr p)), .d (prD (toPr q)), .un, .un, .un, .un, .un, .un, .un]) ?_ ?_
    · generalize sL ps = LP at *
      (repeat' fail "V")
      refine wC_d (ev_pair hl h4l h4r) fun d hd => ?_
      obtain ⟨p, gp, rfl⟩ := hd
      obtain ⟨p, rfl, op, pl, pr⟩ := gp_pv gp h4l h4r
      (repeat' fail "V")
      refine wC_d (ev_other hl h4l h4r op pl pr) fun d hd => ?_
      obtain ⟨q, rfl, oq, ql, qr⟩ := hd
      (repeat' fail "V")
      exact ⟨p, q, op, oq, by omega, by omega, rfl⟩
    rintro _ ⟨p, q, op, oq, xl, yl, rfl⟩
    obtain ⟨o1, cp⟩ := ev_copy (p := toPr p)
    obtain ⟨o2, cq⟩ := ev_copy (p := toPr q)
    obtain ⟨B, hB, o3, al⟩ := ev_lalike (ps := ps) hp op oq xl yl
    obtain ⟨o4, ea⟩ := ev_alikeP (ps := ps) hp op oq (okK_kl hp.1) (okK_kl hp.1)
    obtain ⟨o5, kp⟩ := ev_kind (ps := ps) hp op
    obtain ⟨o6, kq⟩ := ev_kind (ps := ps) hp oq
    have eB : decide (p.a = q.a ∧ p.b = q.b ∧ kl ps p.x p.y = kl ps q.x q.y) = B := by
      rw [Bool.eq_iff_iff, decide_eq_true_iff, hB, kl_iff xl yl]
    have hk := has_ki (ps := ps) op oq
    rw [eB] at ea hk
    have okp : okKU (kiP ps p) = true := ok_ki
    have okq : okKU (kiP ps q) = true := ok_ki
    have iu : inU (kiP ps q) (.dcu [kiP ps p] [.int 1]) = some (.d (.bl B)) := by rw [inU_in okq, hk]
    have s1 := eqD_self (shp_pr (prW op))
    have s2 := eqD_self (shp_pr (prW oq))
    have ne : neD (.bl B) (.bl B) = some (.d (.bl false)) := by rw [Dw.ne_bl, beq_self_eq_true]; rfl
    have eb : eqD (.bl B) (.bl B) = some (.d (.bl true)) := by rw [Dw.eq_bl, beq_self_eq_true]
    have t1 : isiD "tuple" (kiP ps p) = true := rfl
    have t2 : okI (kiP ps p) = true := rfl
    have t3 : isiD "bool" (.bl B) = true := rfl
    have t4 : (!isiD "tuple" (kiP ps p)) = false := rfl
    have t5 : (!isiD "bool" (.bl B)) = false := rfl
    have it : itemsD (.lst (sL ps)) = some (sL ps) := rfl
    have ll : (sL ps).length ≤ 4 := by rw [show (sL ps).length = ps.length from List.length_map ..]; exact hp.1
    clear hB eB hk op oq
    generalize sL ps = LP at *
    generalize kiP ps p = KP at *
    generalize kiP ps q = KQ at *
    generalize prD (toPr p) = PD at *
    generalize prD (toPr q) = QD at *
    (repeat' fail "V")
    refine w_dispU ?_
    (repeat' fail "V")
    refine ⟨_, rfl, okp, ?_⟩
    (repeat' fail "V")
    refine ⟨_, _, rfl, ?_⟩
    (repeat' fail "V")
    have e2 : ∀ env : Sl, env[11]? = some (.own false (.dcu [KP] [.int 1])) → op2 inU (.d KQ) (.cv 11) env = some (.ok (.d (.bl B)) env) := fun env he => by
      show (pkS env[11]?).bind (fun y => (inU KQ y).map (Re.ok · env)) = _
      rw [he]
      show (inU KQ (.dcu [KP] [.int 1])).map (Re.ok · env) = _
      rw [iu]
      rfl
    rw [e2 _ rfl]
    show wSt 12 (.d (.bl B)) _ _
    (repeat' fail "V")
    rfl
  obtain ⟨a, o, h1, rfl⟩ := wF_get this
  exact ⟨o, h1⟩
end
end
end P_talkalike_k55_kinds_of_pairs
namespace P_talkalike_k55_kinds_of_pairs
noncomputable section
open PySem PySem.Spec PyProof.Rows L2 Dw
variable [GI : Glo] [TI : Tabs]
theorem all_mk {l : PySem.W.OpenLaw} {w : World} {K : PySem.W.Frag} {h : Heap} {mg : Str → Option Value} {fa : Addr} (X : K.In h) (G : h.Ns mainGlobals mg) (hfa : mg "law" = some (.ref fa)) (hX : Tabs.X = none) (hGl : ∀ n C, Glo.C n C ↔ n ∈ ([] : List Str) ∧ mg n = some (.ref C)) (hGs : ∀ n C, Glo.S n C ↔ n ∈ ([] : List Str) ∧ mg n = some (.ref C)) (hW : w = Glo.w)
    {f1 : Addr} {od1 an1 : Option Addr} {sl1 : Array (Option Value)} {oc1 kV1 dc1 pm1 cd1 ct1 : Value} {f2 : Addr} {od2 an2 : Option Addr} {sl2 : Array (Option Value)} {oc2 kV2 dc2 pm2 cd2 ct2 : Value} {f3 : Addr} {od3 an3 : Option Addr} {sl3 : Array (Option Value)} {oc3 kV3 dc3 pm3 cd3 ct3 : Value} {f4 : Addr} {od4 an4 : Option Addr} {sl4 : Array (Option Value)} {oc4 kV4 dc4 pm4 cd4 ct4 : Value} {f5 : Addr} {od5 an5 : Option Addr} {sl5 : Array (Option Value)} {oc5 kV5 dc5 pm5 cd5 ct5 : Value} {f6 : Addr} {od6 an6 : Option Addr} {sl6 : Array (Option Value)} {oc6 kV6 dc6 pm6 cd6 ct6 : Value} {f7 : Addr} {od7 an7 : Option Addr} {sl7 : Array (Option Value)} {oc7 kV7 dc7 pm7 cd7 ct7 : Value} {f8 : Addr} {od8 an8 : Option Addr} {sl8 : Array (Option Value)} {oc8 kV8 dc8 pm8 cd8 ct8 : Value} {f9 : Addr} {od9 an9 : Option Addr} {sl9 : Array (Option Value)} {oc9 kV9 dc9 pm9 cd9 ct9 : Value} {f10 : Addr} {od10 an10 : Option Addr} {sl10 : Array (Option Value)} {oc10 kV10 dc10 pm10 cd10 ct10 : Value} {f11 : Addr} {od11 an11 : Option Addr} {sl11 : Array (Option Value)} {oc11 kV11 dc11 pm11 cd11 ct11 : Value} {f12 : Addr} {od12 an12 : Option Addr} {sl12 : Array (Option Value)} {oc12 kV12 dc12 pm12 cd12 ct12 : Value} {f13 : Addr} {od13 an13 : Option Addr} {sl13 : Array (Option Value)} {oc13 kV13 dc13 pm13 cd13 ct13 : Value} {f14 : Addr} {od14 an14 : Option Addr} {sl14 : Array (Option Value)} {oc14 kV14 dc14 pm14 cd14 ct14 : Value} {f15 : Addr} {od15 an15 : Option Addr} {sl15 : Array (Option Value)} {oc15 kV15 dc15 pm15 cd15 ct15 : Value} {f16 : Addr} {od16 an16 : Option Addr} {sl16 : Array (Option Value)} {oc16 kV16 dc16 pm16 cd16 ct16 : Value} {f17 : Addr} {od17 an17 : Option Addr} {sl17 : Array (Option Value)} {oc17 kV17 dc17 pm17 cd17 ct17 : Value} {f18 : Addr} {od18 an18 : Option Addr} {sl18 : Array (Option Value)} {oc18 kV18 dc18 pm18 cd18 ct18 : Value} {f19 : Addr} {od19 an19 : Option Addr} {sl19 : Array (Option Value)} {oc19 kV19 dc19 pm19 cd19 ct19 : Value} {f20 : Addr} {od20 an20 : Option Addr} {sl20 : Array (Option Value)} {oc20 kV20 dc20 pm20 cd20 ct20 : Value} {f21 : Addr} {od21 an21 : Option Addr} {sl21 : Array (Option Value)} {oc21 kV21 dc21 pm21 cd21 ct21 : Value} {f22 : Addr} {od22 an22 : Option Addr} {sl22 : Array (Option Value)} {oc22 kV22 dc22 pm22 cd22 ct22 : Value} {f23 : Addr} {od23 an23 : Option Addr} {sl23 : Array (Option Value)} {oc23 kV23 dc23 pm23 cd23 ct23 : Value} {f24 : Addr} {od24 an24 : Option Addr} {sl24 : Array (Option Value)} {oc24 kV24 dc24 pm24 cd24 ct24 : Value} {f25 : Addr} {od25 an25 : Option Addr} {sl25 : Array (Option Value)} {oc25 kV25 dc25 pm25 cd25 ct25 : Value} {f26 : Addr} {od26 an26 : Option Addr} {sl26 : Array (Option Value)} {oc26 kV26 dc26 pm26 cd26 ct26 : Value} {f27 : Addr} {od27 an27 : Option Addr} {sl27 : Array (Option Value)} {oc27 kV27 dc27 pm27 cd27 ct27 : Value}
    (a1 : PySem.W.nsIn K mainGlobals "is_plain" = some (some (.ref f1)))
    (l1 : K.lookup f1 = some ⟨oc1, od1, .func (PySem.W.fnOf "is_plain" "is_plain" (defArgs s_is_plain) (defBody s_is_plain) (defScope s_is_plain) .none kV1 dc1 pm1 an1 cd1 ct1), sl1⟩)
    (c1 : PySem.W.codeIn K cd1 "is_plain" = true)
    (k1 : PySem.W.keepIn K (.ref f1) = true)
    (a2 : PySem.W.nsIn K mainGlobals "start_lengths" = some (some (.ref f2)))
    (l2 : K.lookup f2 = some ⟨oc2, od2, .func (PySem.W.fnOf "start_lengths" "start_lengths" (defArgs s_start_lengths) (defBody s_start_lengths) (defScope s_start_lengths) .none kV2 dc2 pm2 an2 cd2 ct2), sl2⟩)
    (c2 : PySem.W.codeIn K cd2 "start_lengths" = true)
    (k2 : PySem.W.keepIn K (.ref f2) = true)
    (a3 : PySem.W.nsIn K mainGlobals "next_lengths" = some (some (.ref f3)))
    (l3 : K.lookup f3 = some ⟨oc3, od3, .func (PySem.W.fnOf "next_lengths" "next_lengths" (defArgs s_next_lengths) (defBody s_next_lengths) (defScope s_next_lengths) .none kV3 dc3 pm3 an3 cd3 ct3), sl3⟩)
    (c3 : PySem.W.codeIn K cd3 "next_lengths" = true)
    (k3 : PySem.W.keepIn K (.ref f3) = true)
    (a4 : PySem.W.nsIn K mainGlobals "matches" = some (some (.ref f4)))
    (l4 : K.lookup f4 = some ⟨oc4, od4, .func (PySem.W.fnOf "matches" "matches" (defArgs s_matches) (defBody s_matches) (defScope s_matches) .none kV4 dc4 pm4 an4 cd4 ct4), sl4⟩)
    (c4 : PySem.W.codeIn K cd4 "matches" = true)
    (k4 : PySem.W.keepIn K (.ref f4) = true)
    (a5 : PySem.W.nsIn K mainGlobals "class_of" = some (some (.ref f5)))
    (l5 : K.lookup f5 = some ⟨oc5, od5, .func (PySem.W.fnOf "class_of" "class_of" (defArgs s_class_of) (defBody s_class_of) (defScope s_class_of) .none kV5 dc5 pm5 an5 cd5 ct5), sl5⟩)
    (c5 : PySem.W.codeIn K cd5 "class_of" = true)
    (k5 : PySem.W.keepIn K (.ref f5) = true)
    (a6 : PySem.W.nsIn K mainGlobals "is_own" = some (some (.ref f6)))
    (l6 : K.lookup f6 = some ⟨oc6, od6, .func (PySem.W.fnOf "is_own" "is_own" (defArgs s_is_own) (defBody s_is_own) (defScope s_is_own) .none kV6 dc6 pm6 an6 cd6 ct6), sl6⟩)
    (c6 : PySem.W.codeIn K cd6 "is_own" = true)
    (k6 : PySem.W.keepIn K (.ref f6) = true)
    (a7 : PySem.W.nsIn K mainGlobals "part_of_kind" = some (some (.ref f7)))
    (l7 : K.lookup f7 = some ⟨oc7, od7, .func (PySem.W.fnOf "part_of_kind" "part_of_kind" (defArgs s_part_of_kind) (defBody s_part_of_kind) (defScope s_part_of_kind) .none kV7 dc7 pm7 an7 cd7 ct7), sl7⟩)
    (c7 : PySem.W.codeIn K cd7 "part_of_kind" = true)
    (k7 : PySem.W.keepIn K (.ref f7) = true)
    (a8 : PySem.W.nsIn K mainGlobals "kind_with" = some (some (.ref f8)))
    (l8 : K.lookup f8 = some ⟨oc8, od8, .func (PySem.W.fnOf "kind_with" "kind_with" (defArgs s_kind_with) (defBody s_kind_with) (defScope s_kind_with) .none kV8 dc8 pm8 an8 cd8 ct8), sl8⟩)
    (c8 : PySem.W.codeIn K cd8 "kind_with" = true)
    (k8 : PySem.W.keepIn K (.ref f8) = true)
    (a9 : PySem.W.nsIn K mainGlobals "values_held" = some (some (.ref f9)))
    (l9 : K.lookup f9 = some ⟨oc9, od9, .func (PySem.W.fnOf "values_held" "values_held" (defArgs s_values_held) (defBody s_values_held) (defScope s_values_held) .none kV9 dc9 pm9 an9 cd9 ct9), sl9⟩)
    (c9 : PySem.W.codeIn K cd9 "values_held" = true)
    (k9 : PySem.W.keepIn K (.ref f9) = true)
    (a10 : PySem.W.nsIn K mainGlobals "classes_held" = some (some (.ref f10)))
    (l10 : K.lookup f10 = some ⟨oc10, od10, .func (PySem.W.fnOf "classes_held" "classes_held" (defArgs s_classes_held) (defBody s_classes_held) (defScope s_classes_held) .none kV10 dc10 pm10 an10 cd10 ct10), sl10⟩)
    (c10 : PySem.W.codeIn K cd10 "classes_held" = true)
    (k10 : PySem.W.keepIn K (.ref f10) = true)
    (a11 : PySem.W.nsIn K mainGlobals "kind_of" = some (some (.ref f11)))
    (l11 : K.lookup f11 = some ⟨oc11, od11, .func (PySem.W.fnOf "kind_of" "kind_of" (defArgs s_kind_of) (defBody s_kind_of) (defScope s_kind_of) .none kV11 dc11 pm11 an11 cd11 ct11), sl11⟩)
    (c11 : PySem.W.codeIn K cd11 "kind_of" = true)
    (k11 : PySem.W.keepIn K (.ref f11) = true)
    (a12 : PySem.W.nsIn K mainGlobals "alike" = some (some (.ref f12)))
    (l12 : K.lookup f12 = some ⟨oc12, od12, .func (PySem.W.fnOf "alike" "alike" (defArgs s_alike) (defBody s_alike) (defScope s_alike) .none kV12 dc12 pm12 an12 cd12 ct12), sl12⟩)
    (c12 : PySem.W.codeIn K cd12 "alike" = true)
    (k12 : PySem.W.keepIn K (.ref f12) = true)
    (a13 : PySem.W.nsIn K mainGlobals "_law_draw" = some (some (.ref f13)))
    (l13 : K.lookup f13 = some ⟨oc13, od13, .func (PySem.W.fnOf "_law_draw" "_law_draw" (defArgs s_ulawudraw) (defBody s_ulawudraw) (defScope s_ulawudraw) .none kV13 dc13 pm13 an13 cd13 ct13), sl13⟩)
    (c13 : PySem.W.codeIn K cd13 "_law_draw" = true)
    (k13 : PySem.W.keepIn K (.ref f13) = true)
    (a14 : PySem.W.nsIn K mainGlobals "_law_matches" = some (some (.ref f14)))
    (l14 : K.lookup f14 = some ⟨oc14, od14, .func (PySem.W.fnOf "_law_matches" "_law_matches" (defArgs s_ulawumatches) (defBody s_ulawumatches) (defScope s_ulawumatches) .none kV14 dc14 pm14 an14 cd14 ct14), sl14⟩)
    (c14 : PySem.W.codeIn K cd14 "_law_matches" = true)
    (k14 : PySem.W.keepIn K (.ref f14) = true)
    (a15 : PySem.W.nsIn K mainGlobals "_law_class" = some (some (.ref f15)))
    (l15 : K.lookup f15 = some ⟨oc15, od15, .func (PySem.W.fnOf "_law_class" "_law_class" (defArgs s_ulawuclass) (defBody s_ulawuclass) (defScope s_ulawuclass) .none kV15 dc15 pm15 an15 cd15 ct15), sl15⟩)
    (c15 : PySem.W.codeIn K cd15 "_law_class" = true)
    (k15 : PySem.W.keepIn K (.ref f15) = true)
    (a16 : PySem.W.nsIn K mainGlobals "_law_sort" = some (some (.ref f16)))
    (l16 : K.lookup f16 = some ⟨oc16, od16, .func (PySem.W.fnOf "_law_sort" "_law_sort" (defArgs s_ulawusort) (defBody s_ulawusort) (defScope s_ulawusort) .none kV16 dc16 pm16 an16 cd16 ct16), sl16⟩)
    (c16 : PySem.W.codeIn K cd16 "_law_sort" = true)
    (k16 : PySem.W.keepIn K (.ref f16) = true)
    (a17 : PySem.W.nsIn K mainGlobals "_law_same_mark" = some (some (.ref f17)))
    (l17 : K.lookup f17 = some ⟨oc17, od17, .func (PySem.W.fnOf "_law_same_mark" "_law_same_mark" (defArgs s_ulawusameumark) (defBody s_ulawusameumark) (defScope s_ulawusameumark) .none kV17 dc17 pm17 an17 cd17 ct17), sl17⟩)
    (c17 : PySem.W.codeIn K cd17 "_law_same_mark" = true)
    (k17 : PySem.W.keepIn K (.ref f17) = true)
    (a18 : PySem.W.nsIn K mainGlobals "_law_linked" = some (some (.ref f18)))
    (l18 : K.lookup f18 = some ⟨oc18, od18, .func (PySem.W.fnOf "_law_linked" "_law_linked" (defArgs s_ulawulinked) (defBody s_ulawulinked) (defScope s_ulawulinked) .none kV18 dc18 pm18 an18 cd18 ct18), sl18⟩)
    (c18 : PySem.W.codeIn K cd18 "_law_linked" = true)
    (k18 : PySem.W.keepIn K (.ref f18) = true)
    (a19 : PySem.W.nsIn K mainGlobals "_law_alike" = some (some (.ref f19)))
    (l19 : K.lookup f19 = some ⟨oc19, od19, .func (PySem.W.fnOf "_law_alike" "_law_alike" (defArgs s_ulawualike) (defBody s_ulawualike) (defScope s_ulawualike) .none kV19 dc19 pm19 an19 cd19 ct19), sl19⟩)
    (c19 : PySem.W.codeIn K cd19 "_law_alike" = true)
    (k19 : PySem.W.keepIn K (.ref f19) = true)
    (a20 : PySem.W.nsIn K mainGlobals "_law_some" = some (some (.ref f20)))
    (l20 : K.lookup f20 = some ⟨oc20, od20, .func (PySem.W.fnOf "_law_some" "_law_some" (defArgs s_ulawusome) (defBody s_ulawusome) (defScope s_ulawusome) .none kV20 dc20 pm20 an20 cd20 ct20), sl20⟩)
    (c20 : PySem.W.codeIn K cd20 "_law_some" = true)
    (k20 : PySem.W.keepIn K (.ref f20) = true)
    (a21 : PySem.W.nsIn K mainGlobals "_law_pair" = some (some (.ref f21)))
    (l21 : K.lookup f21 = some ⟨oc21, od21, .func (PySem.W.fnOf "_law_pair" "_law_pair" (defArgs s_ulawupair) (defBody s_ulawupair) (defScope s_ulawupair) .none kV21 dc21 pm21 an21 cd21 ct21), sl21⟩)
    (c21 : PySem.W.codeIn K cd21 "_law_pair" = true)
    (k21 : PySem.W.keepIn K (.ref f21) = true)
    (a22 : PySem.W.nsIn K mainGlobals "_law_copy" = some (some (.ref f22)))
    (l22 : K.lookup f22 = some ⟨oc22, od22, .func (PySem.W.fnOf "_law_copy" "_law_copy" (defArgs s_ulawucopy) (defBody s_ulawucopy) (defScope s_ulawucopy) .none kV22 dc22 pm22 an22 cd22 ct22), sl22⟩)
    (c22 : PySem.W.codeIn K cd22 "_law_copy" = true)
    (k22 : PySem.W.keepIn K (.ref f22) = true)
    (a23 : PySem.W.nsIn K mainGlobals "_law_menu" = some (some (.ref f23)))
    (l23 : K.lookup f23 = some ⟨oc23, od23, .func (PySem.W.fnOf "_law_menu" "_law_menu" (defArgs s_ulawumenu) (defBody s_ulawumenu) (defScope s_ulawumenu) .none kV23 dc23 pm23 an23 cd23 ct23), sl23⟩)
    (c23 : PySem.W.codeIn K cd23 "_law_menu" = true)
    (k23 : PySem.W.keepIn K (.ref f23) = true)
    (a24 : PySem.W.nsIn K mainGlobals "_law_exchanged" = some (some (.ref f24)))
    (l24 : K.lookup f24 = some ⟨oc24, od24, .func (PySem.W.fnOf "_law_exchanged" "_law_exchanged" (defArgs s_ulawuexchanged) (defBody s_ulawuexchanged) (defScope s_ulawuexchanged) .none kV24 dc24 pm24 an24 cd24 ct24), sl24⟩)
    (c24 : PySem.W.codeIn K cd24 "_law_exchanged" = true)
    (k24 : PySem.W.keepIn K (.ref f24) = true)
    (a25 : PySem.W.nsIn K mainGlobals "_law_twin" = some (some (.ref f25)))
    (l25 : K.lookup f25 = some ⟨oc25, od25, .func (PySem.W.fnOf "_law_twin" "_law_twin" (defArgs s_ulawutwin) (defBody s_ulawutwin) (defScope s_ulawutwin) .none kV25 dc25 pm25 an25 cd25 ct25), sl25⟩)
    (c25 : PySem.W.codeIn K cd25 "_law_twin" = true)
    (k25 : PySem.W.keepIn K (.ref f25) = true)
    (a26 : PySem.W.nsIn K mainGlobals "_law_other" = some (some (.ref f26)))
    (l26 : K.lookup f26 = some ⟨oc26, od26, .func (PySem.W.fnOf "_law_other" "_law_other" (defArgs s_ulawuother) (defBody s_ulawuother) (defScope s_ulawuother) .none kV26 dc26 pm26 an26 cd26 ct26), sl26⟩)
    (c26 : PySem.W.codeIn K cd26 "_law_other" = true)
    (k26 : PySem.W.keepIn K (.ref f26) = true)
    (a27 : PySem.W.nsIn K mainGlobals "law" = some (some (.ref f27)))
    (l27 : K.lookup f27 = some ⟨oc27, od27, .func (PySem.W.fnOf "law" "law" (defArgs s_law) (defBody s_law) (defScope s_law) .none kV27 dc27 pm27 an27 cd27 ct27), sl27⟩)
    (c27 : PySem.W.codeIn K cd27 "law" = true)
    (k27 : PySem.W.keepIn K (.ref f27) = true)
    (z_bool : PySem.W.nsIn K mainGlobals "bool" = some none)
    (z_enumerate : PySem.W.nsIn K mainGlobals "enumerate" = some none)
    (z_int : PySem.W.nsIn K mainGlobals "int" = some none)
    (z_isinstance : PySem.W.nsIn K mainGlobals "isinstance" = some none)
    (z_len : PySem.W.nsIn K mainGlobals "len" = some none)
    (z_list : PySem.W.nsIn K mainGlobals "list" = some none)
    (z_range : PySem.W.nsIn K mainGlobals "range" = some none)
    (z_str : PySem.W.nsIn K mainGlobals "str" = some none)
    (z_tuple : PySem.W.nsIn K mainGlobals "tuple" = some none) :
    ∃ fd : FuncData, (∀ (s : Shared) (v : Value), BindsTo s fd ⟨[v], []⟩ [("script", v)]) ∧ ∀ base : Heap, K.In base → base.Ns mainGlobals mg → FnOk l.prog w K mg base CX0 7 fa fd ["script"] (spD K 1 m_law) := by
  have e := hfa.symm.trans (PySem.W.mg_of X G a27)
  cases e
  refine ⟨PySem.W.fnOf "law" "law" (defArgs s_law) (defBody s_law) (defScope s_law) .none kV27 dc27 pm27 an27 cd27 ct27, fun s v => .of_eq rfl, fun base _ _  => ?_⟩
  have y_bool := PySem.W.mg_none_of X G z_bool
  have y_enumerate := PySem.W.mg_none_of X G z_enumerate
  have y_int := PySem.W.mg_none_of X G z_int
  have y_isinstance := PySem.W.mg_none_of X G z_isinstance
  have y_len := PySem.W.mg_none_of X G z_len
  have y_list := PySem.W.mg_none_of X G z_list
  have y_range := PySem.W.mg_none_of X G z_range
  have y_str := PySem.W.mg_none_of X G z_str
  have y_tuple := PySem.W.mg_none_of X G z_tuple
  have F1 := fun_mk (st := s_is_plain) l1 c1 k1
  have O1 : FnOk l.prog w K mg base CX0 1 f1 _ ["pattern"] (spD K 1 m_is_plain) := ok_is_plain F1 
  have b1 := F1.binds (ps := ["pattern"]) fun _ _ _ _ _ _ => Dw.len1 fun _ => rfl
  have D1 : Def l.prog w K mg base 1 "is_plain" 1 m_is_plain [] := (DefG.mk0 O1 defM_len (PySem.W.mg_of X G a1) F1.kp b1).to
  have F2 := fun_mk (st := s_start_lengths) l2 c2 k2
  have O2 : FnOk l.prog w K mg base CX0 1 f2 _ ["pattern"] (spD K 1 m_start_lengths) := ok_start_lengths F2 y_len y_range y_tuple
  have b2 := F2.binds (ps := ["pattern"]) fun _ _ _ _ _ _ => Dw.len1 fun _ => rfl
  have D2 : Def l.prog w K mg base 1 "start_lengths" 1 m_start_lengths [] := (DefG.mk0 O2 defM_len (PySem.W.mg_of X G a2) F2.kp b2).to
  have F3 := fun_mk (st := s_next_lengths) l3 c3 k3
  have O3 : FnOk l.prog w K mg base CX0 1 f3 _ ["pattern", "lengths", "letter"] (spD K 3 m_next_lengths) := ok_next_lengths F3 y_enumerate y_tuple
  have b3 := F3.binds (ps := ["pattern", "lengths", "letter"]) fun _ _ _ _ _ _ => Dw.len3 fun _ _ _ => rfl
  have D3 : Def l.prog w K mg base 1 "next_lengths" 3 m_next_lengths [] := (DefG.mk0 O3 defM_len (PySem.W.mg_of X G a3) F3.kp b3).to
  have F4 := fun_mk (st := s_matches) l4 c4 k4
  have O4 : FnOk l.prog w K mg base CX0 2 f4 _ ["pattern", "text"] (spD K 2 m_matches) := ok_matches F4 y_len D1 D2 D3
  have b4 := F4.binds (ps := ["pattern", "text"]) fun _ _ _ _ _ _ => Dw.len2 fun _ _ => rfl
  have D4 : Def l.prog w K mg base 2 "matches" 2 m_matches [] := (DefG.mk0 O4 defM_len (PySem.W.mg_of X G a4) F4.kp b4).to
  have F5 := fun_mk (st := s_class_of) l5 c5 k5
  have O5 : FnOk l.prog w K mg base CX0 3 f5 _ ["patterns", "text"] (spD K 2 m_class_of) := ok_class_of F5 y_tuple D4
  have b5 := F5.binds (ps := ["patterns", "text"]) fun _ _ _ _ _ _ => Dw.len2 fun _ _ => rfl
  have D5 : Def l.prog w K mg base 3 "class_of" 2 m_class_of [] := (DefG.mk0 O5 defM_len (PySem.W.mg_of X G a5) F5.kp b5).to
  have F6 := fun_mk (st := s_is_own) l6 c6 k6
  have O6 : FnOk l.prog w K mg base CX0 1 f6 _ ["value"] (spD K 1 m_is_own) := ok_is_own F6 y_isinstance y_tuple
  have b6 := F6.binds (ps := ["value"]) fun _ _ _ _ _ _ => Dw.len1 fun _ => rfl
  have D6 : Def l.prog w K mg base 1 "is_own" 1 m_is_own [] := (DefG.mk0 O6 defM_len (PySem.W.mg_of X G a6) F6.kp b6).to
  have F7 := fun_mk (st := s_part_of_kind) l7 c7 k7
  have O7 : FnOk l.prog w K mg base CX0 2 f7 _ ["classes", "value", "held", "together"] (spD K 4 m_part_of_kind) := ok_part_of_kind F7 y_isinstance y_str D6
  have b7 := F7.binds (ps := ["classes", "value", "held", "together"]) fun _ _ _ _ _ _ => Dw.len4 fun _ _ _ _ => rfl
  have D7 : Def l.prog w K mg base 2 "part_of_kind" 4 m_part_of_kind [] := (DefG.mk0 O7 defM_len (PySem.W.mg_of X G a7) F7.kp b7).to
  have F8 := fun_mk (st := s_kind_with) l8 c8 k8
  have O8 : FnOk l.prog w K mg base CX0 3 f8 _ ["classes", "pair"] (spD K 2 m_kind_with) := ok_kind_with F8 D7
  have b8 := F8.binds (ps := ["classes", "pair"]) fun _ _ _ _ _ _ => Dw.len2 fun _ _ => rfl
  have D8 : Def l.prog w K mg base 3 "kind_with" 2 m_kind_with [] := (DefG.mk0 O8 defM_len (PySem.W.mg_of X G a8) F8.kp b8).to
  have F9 := fun_mk (st := s_values_held) l9 c9 k9
  have O9 : FnOk l.prog w K mg base CX0 2 f9 _ ["pair"] (spD K 1 m_values_held) := ok_values_held F9 D6
  have b9 := F9.binds (ps := ["pair"]) fun _ _ _ _ _ _ => Dw.len1 fun _ => rfl
  have D9 : Def l.prog w K mg base 2 "values_held" 1 m_values_held [] := (DefG.mk0 O9 defM_len (PySem.W.mg_of X G a9) F9.kp b9).to
  have F10 := fun_mk (st := s_classes_held) l10 c10 k10
  have O10 : FnOk l.prog w K mg base CX0 4 f10 _ ["patterns", "pair"] (spD K 2 m_classes_held) := ok_classes_held F10 y_isinstance y_str D9 D5
  have b10 := F10.binds (ps := ["patterns", "pair"]) fun _ _ _ _ _ _ => Dw.len2 fun _ _ => rfl
  have D10 : Def l.prog w K mg base 4 "classes_held" 2 m_classes_held [] := (DefG.mk0 O10 defM_len (PySem.W.mg_of X G a10) F10.kp b10).to
  have F11 := fun_mk (st := s_kind_of) l11 c11 k11
  have O11 : FnOk l.prog w K mg base CX0 5 f11 _ ["patterns", "pair"] (spD K 2 m_kind_of) := ok_kind_of F11 D10 D8
  have b11 := F11.binds (ps := ["patterns", "pair"]) fun _ _ _ _ _ _ => Dw.len2 fun _ _ => rfl
  have D11 : Def l.prog w K mg base 5 "kind_of" 2 m_kind_of [] := (DefG.mk0 O11 defM_len (PySem.W.mg_of X G a11) F11.kp b11).to
  have F12 := fun_mk (st := s_alike) l12 c12 k12
  have O12 : FnOk l.prog w K mg base CX0 6 f12 _ ["patterns", "one", "other"] (spD K 3 m_alike) := ok_alike F12 D11
  have b12 := F12.binds (ps := ["patterns", "one", "other"]) fun _ _ _ _ _ _ => Dw.len3 fun _ _ _ => rfl
  have D12 : Def l.prog w K mg base 6 "alike" 3 m_alike [] := (DefG.mk0 O12 defM_len (PySem.W.mg_of X G a12) F12.kp b12).to
  have F13 := fun_mk (st := s_ulawudraw) l13 c13 k13
  have O13 : FnOk l.prog w K mg base CX0 1 f13 _ ["script", "k", "below"] (spD K 3 m_ulawudraw) := ok_ulawudraw F13 y_int y_len y_range
  have b13 := F13.binds (ps := ["script", "k", "below"]) fun _ _ _ _ _ _ => Dw.len3 fun _ _ _ => rfl
  have D13 : Def l.prog w K mg base 1 "_law_draw" 3 m_ulawudraw [] := (DefG.mk0 O13 defM_len (PySem.W.mg_of X G a13) F13.kp b13).to
  have F14 := fun_mk (st := s_ulawumatches) l14 c14 k14
  have O14 : FnOk l.prog w K mg base CX0 1 f14 _ ["pattern", "text"] (spD K 2 m_ulawumatches) := ok_ulawumatches F14 y_len y_range
  have b14 := F14.binds (ps := ["pattern", "text"]) fun _ _ _ _ _ _ => Dw.len2 fun _ _ => rfl
  have D14 : Def l.prog w K mg base 1 "_law_matches" 2 m_ulawumatches [] := (DefG.mk0 O14 defM_len (PySem.W.mg_of X G a14) F14.kp b14).to
  have F15 := fun_mk (st := s_ulawuclass) l15 c15 k15
  have O15 : FnOk l.prog w K mg base CX0 2 f15 _ ["patterns", "text"] (spD K 2 m_ulawuclass) := ok_ulawuclass F15 D14
  have b15 := F15.binds (ps := ["patterns", "text"]) fun _ _ _ _ _ _ => Dw.len2 fun _ _ => rfl
  have D15 : Def l.prog w K mg base 2 "_law_class" 2 m_ulawuclass [] := (DefG.mk0 O15 defM_len (PySem.W.mg_of X G a15) F15.kp b15).to
  have F16 := fun_mk (st := s_ulawusort) l16 c16 k16
  have O16 : FnOk l.prog w K mg base CX0 1 f16 _ ["held"] (spD K 1 m_ulawusort) := ok_ulawusort F16 y_isinstance y_str y_tuple
  have b16 := F16.binds (ps := ["held"]) fun _ _ _ _ _ _ => Dw.len1 fun _ => rfl
  have D16 : Def l.prog w K mg base 1 "_law_sort" 1 m_ulawusort [] := (DefG.mk0 O16 defM_len (PySem.W.mg_of X G a16) F16.kp b16).to
  have F17 := fun_mk (st := s_ulawusameumark) l17 c17 k17
  have O17 : FnOk l.prog w K mg base CX0 3 f17 _ ["patterns", "one", "other"] (spD K 3 m_ulawusameumark) := ok_ulawusameumark F17 y_isinstance y_str D16 D15
  have b17 := F17.binds (ps := ["patterns", "one", "other"]) fun _ _ _ _ _ _ => Dw.len3 fun _ _ _ => rfl
  have D17 : Def l.prog w K mg base 3 "_law_same_mark" 3 m_ulawusameumark [] := (DefG.mk0 O17 defM_len (PySem.W.mg_of X G a17) F17.kp b17).to
  have F18 := fun_mk (st := s_ulawulinked) l18 c18 k18
  have O18 : FnOk l.prog w K mg base CX0 2 f18 _ ["row", "i", "j", "split"] (spD K 4 m_ulawulinked) := ok_ulawulinked F18 D16
  have b18 := F18.binds (ps := ["row", "i", "j", "split"]) fun _ _ _ _ _ _ => Dw.len4 fun _ _ _ _ => rfl
  have D18 : Def l.prog w K mg base 2 "_law_linked" 4 m_ulawulinked [] := (DefG.mk0 O18 defM_len (PySem.W.mg_of X G a18) F18.kp b18).to
  have F19 := fun_mk (st := s_ulawualike) l19 c19 k19
  have O19 : FnOk l.prog w K mg base CX0 4 f19 _ ["patterns", "one", "other"] (spD K 3 m_ulawualike) := ok_ulawualike F19 y_len y_list y_range D17 D18
  have b19 := F19.binds (ps := ["patterns", "one", "other"]) fun _ _ _ _ _ _ => Dw.len3 fun _ _ _ => rfl
  have D19 : Def l.prog w K mg base 4 "_law_alike" 3 m_ulawualike [] := (DefG.mk0 O19 defM_len (PySem.W.mg_of X G a19) F19.kp b19).to
  have F20 := fun_mk (st := s_ulawusome) l20 c20 k20
  have O20 : FnOk l.prog w K mg base CX0 2 f20 _ ["script", "k"] (spD K 2 m_ulawusome) := ok_ulawusome F20 D13
  have b20 := F20.binds (ps := ["script", "k"]) fun _ _ _ _ _ _ => Dw.len2 fun _ _ => rfl
  have D20 : Def l.prog w K mg base 2 "_law_some" 2 m_ulawusome [] := (DefG.mk0 O20 defM_len (PySem.W.mg_of X G a20) F20.kp b20).to
  have F21 := fun_mk (st := s_ulawupair) l21 c21 k21
  have O21 : FnOk l.prog w K mg base CX0 3 f21 _ ["script", "k", "left", "right"] (spD K 4 m_ulawupair) := ok_ulawupair F21 y_range D20 D13
  have b21 := F21.binds (ps := ["script", "k", "left", "right"]) fun _ _ _ _ _ _ => Dw.len4 fun _ _ _ _ => rfl
  have D21 : Def l.prog w K mg base 3 "_law_pair" 4 m_ulawupair [] := (DefG.mk0 O21 defM_len (PySem.W.mg_of X G a21) F21.kp b21).to
  have F22 := fun_mk (st := s_ulawucopy) l22 c22 k22
  have O22 : FnOk l.prog w K mg base CX0 1 f22 _ ["pair"] (spD K 1 m_ulawucopy) := ok_ulawucopy F22 y_list
  have b22 := F22.binds (ps := ["pair"]) fun _ _ _ _ _ _ => Dw.len1 fun _ => rfl
  have D22 : Def l.prog w K mg base 1 "_law_copy" 1 m_ulawucopy [] := (DefG.mk0 O22 defM_len (PySem.W.mg_of X G a22) F22.kp b22).to
  have F23 := fun_mk (st := s_ulawumenu) l23 c23 k23
  have O23 : FnOk l.prog w K mg base CX0 2 f23 _ ["script", "k"] (spD K 2 m_ulawumenu) := ok_ulawumenu F23 D13
  have b23 := F23.binds (ps := ["script", "k"]) fun _ _ _ _ _ _ => Dw.len2 fun _ _ => rfl
  have D23 : Def l.prog w K mg base 2 "_law_menu" 2 m_ulawumenu [] := (DefG.mk0 O23 defM_len (PySem.W.mg_of X G a23) F23.kp b23).to
  have F24 := fun_mk (st := s_ulawuexchanged) l24 c24 k24
  have O24 : FnOk l.prog w K mg base CX0 1 f24 _ ["held", "shift"] (spD K 2 m_ulawuexchanged) := ok_ulawuexchanged F24 y_isinstance y_str y_tuple
  have b24 := F24.binds (ps := ["held", "shift"]) fun _ _ _ _ _ _ => Dw.len2 fun _ _ => rfl
  have D24 : Def l.prog w K mg base 1 "_law_exchanged" 2 m_ulawuexchanged [] := (DefG.mk0 O24 defM_len (PySem.W.mg_of X G a24) F24.kp b24).to
  have F25 := fun_mk (st := s_ulawutwin) l25 c25 k25
  have O25 : FnOk l.prog w K mg base CX0 2 f25 _ ["pair", "shift"] (spQ2 K 2 m_ulawutwin) := ok_ulawutwin F25 y_isinstance y_tuple D24
  have b25 := F25.binds (ps := ["pair", "shift"]) fun _ _ _ _ _ _ => Dw.len2 fun _ _ => rfl
  have D25 : DefQ2 l.prog w K mg base 2 "_law_twin" 2 m_ulawutwin := DefQ2.mk0 O25 (PySem.W.mg_of X G a25) F25.kp b25
  have F26 := fun_mk (st := s_ulawuother) l26 c26 k26
  have O26 : FnOk l.prog w K mg base CX0 4 f26 _ ["script", "one", "left", "right"] (spD K 4 m_ulawuother) := ok_ulawuother F26 y_len D13 D21 D25 D20
  have b26 := F26.binds (ps := ["script", "one", "left", "right"]) fun _ _ _ _ _ _ => Dw.len4 fun _ _ _ _ => rfl
  have D26 : Def l.prog w K mg base 4 "_law_other" 4 m_ulawuother [] := (DefG.mk0 O26 defM_len (PySem.W.mg_of X G a26) F26.kp b26).to
  have F27 := fun_mk (st := s_law) l27 c27 k27
  exact ok_law F27 y_bool y_isinstance y_list y_tuple hW D23 D13 D21 D26 D22 D19 D12 D11
end
end P_talkalike_k55_kinds_of_pairs
open PySem PySem.W PyProof.Rows
set_option maxHeartbeats 0 in
theorem PySem.Challenge.cw_talkalike_k55_kinds_of_pairs_holds : PySem.Challenge.rw_talkalike_k55_kinds_of_pairs.Holds := by
  w_on; o_law; k_head; (case hw => w_witness2)
  k_fill
  refine Dw.walk_tabs (ls := []) (l := PySem.Challenge.rw_talkalike_k55_kinds_of_pairs) (n := 63) (k := 7) (x := "script") (m := P_talkalike_k55_kinds_of_pairs.m_law) (fun w mg => ⟨fun n C => n ∈ ([] : List PySem.Str) ∧ mg n = some (.ref C), w, fun n C => n ∈ ([] : List PySem.Str) ∧ mg n = some (.ref C)⟩) [] rfl (by decide) rfl ⟨rfl, by decide, by decide⟩ (fun w h Y => PySem.W.kIn_of Y) ?R (fun p => ?T) ?F (fun GI TI ns hl => letI : Dw.Glo := GI; letI : Dw.Tabs := TI; P_talkalike_k55_kinds_of_pairs.main ns hl)
  case R => kernel_rfl
  case T => kernel_rfl
  case F =>
    intro w mg fa h KX G hmg ht
    refine' Exists.imp (fun fd b => ⟨b.1, fun base h1 h2 t => b.2 base h1 h2 ⟩) (P_talkalike_k55_kinds_of_pairs.all_mk (GI := ⟨fun n C => n ∈ ([] : List PySem.Str) ∧ mg n = some (.ref C), w, fun n C => n ∈ ([] : List PySem.Str) ∧ mg n = some (.ref C)⟩) (TI := Dw.tabsOf _ [] []) KX G hmg rfl (fun _ _ => Iff.rfl) (fun _ _ => Iff.rfl) rfl  ?a1 ?l1 ?c1 ?k1 ?a2 ?l2 ?c2 ?k2 ?a3 ?l3 ?c3 ?k3 ?a4 ?l4 ?c4 ?k4 ?a5 ?l5 ?c5 ?k5 ?a6 ?l6 ?c6 ?k6 ?a7 ?l7 ?c7 ?k7 ?a8 ?l8 ?c8 ?k8 ?a9 ?l9 ?c9 ?k9 ?a10 ?l10 ?c10 ?k10 ?a11 ?l11 ?c11 ?k11 ?a12 ?l12 ?c12 ?k12 ?a13 ?l13 ?c13 ?k13 ?a14 ?l14 ?c14 ?k14 ?a15 ?l15 ?c15 ?k15 ?a16 ?l16 ?c16 ?k16 ?a17 ?l17 ?c17 ?k17 ?a18 ?l18 ?c18 ?k18 ?a19 ?l19 ?c19 ?k19 ?a20 ?l20 ?c20 ?k20 ?a21 ?l21 ?c21 ?k21 ?a22 ?l22 ?c22 ?k22 ?a23 ?l23 ?c23 ?k23 ?a24 ?l24 ?c24 ?k24 ?a25 ?l25 ?c25 ?k25 ?a26 ?l26 ?c26 ?k26 ?a27 ?l27 ?c27 ?k27 ?z_bool ?z_enumerate ?z_int ?z_isinstance ?z_len ?z_list ?z_range ?z_str ?z_tuple)
    (case a1 => k_is); (case l1 => k_is); (case c1 => k_is); (case k1 => k_is); (case a2 => k_is); (case l2 => k_is); (case c2 => k_is); (case k2 => k_is); (case a3 => k_is); (case l3 => k_is); (case c3 => k_is); (case k3 => k_is); (case a4 => k_is); (case l4 => k_is); (case c4 => k_is); (case k4 => k_is); (case a5 => k_is); (case l5 => k_is); (case c5 => k_is); (case k5 => k_is); (case a6 => k_is); (case l6 => k_is); (case c6 => k_is); (case k6 => k_is); (case a7 => k_is); (case l7 => k_is); (case c7 => k_is); (case k7 => k_is); (case a8 => k_is); (case l8 => k_is); (case c8 => k_is); (case k8 => k_is); (case a9 => k_is); (case l9 => k_is); (case c9 => k_is); (case k9 => k_is); (case a10 => k_is); (case l10 => k_is); (case c10 => k_is); (case k10 => k_is); (case a11 => k_is); (case l11 => k_is); (case c11 => k_is); (case k11 => k_is); (case a12 => k_is); (case l12 => k_is); (case c12 => k_is); (case k12 => k_is); (case a13 => k_is); (case l13 => k_is); (case c13 => k_is); (case k13 => k_is); (case a14 => k_is); (case l14 => k_is); (case c14 => k_is); (case k14 => k_is); (case a15 => k_is); (case l15 => k_is); (case c15 => k_is); (case k15 => k_is); (case a16 => k_is); (case l16 => k_is); (case c16 => k_is); (case k16 => k_is); (case a17 => k_is); (case l17 => k_is); (case c17 => k_is); (case k17 => k_is); (case a18 => k_is); (case l18 => k_is); (case c18 => k_is); (case k18 => k_is); (case a19 => k_is); (case l19 => k_is); (case c19 => k_is); (case k19 => k_is); (case a20 => k_is); (case l20 => k_is); (case c20 => k_is); (case k20 => k_is); (case a21 => k_is); (case l21 => k_is); (case c21 => k_is); (case k21 => k_is); (case a22 => k_is); (case l22 => k_is); (case c22 => k_is); (case k22 => k_is); (case a23 => k_is); (case l23 => k_is); (case c23 => k_is); (case k23 => k_is); (case a24 => k_is); (case l24 => k_is); (case c24 => k_is); (case k24 => k_is); (case a25 => k_is); (case l25 => k_is); (case c25 => k_is); (case k25 => k_is); (case a26 => k_is); (case l26 => k_is); (case c26 => k_is); (case k26 => k_is); (case a27 => k_is); (case l27 => k_is); (case c27 => k_is); (case k27 => k_is); (case z_bool => k_is); (case z_enumerate => k_is); (case z_int => k_is); (case z_isinstance => k_is); (case z_len => k_is); (case z_list => k_is); (case z_range => k_is); (case z_str => k_is); (case z_tuple => k_is)
