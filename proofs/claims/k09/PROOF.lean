import PyProof.Rows.All
import Wide.All
import OpenK.AllK
import Wide.FinOn
import HandS.ForMost
import HandS.ForExc
import HandS.Flow
import HandS.TupAny
import HandS.Deep
import HandS.IsInst
import HandS.Walk
import HandS.Steps
import HandS.Lambda
import HandS.StrMore
import HandS.Style
import HandS.AnyAll
import KE.KeyNested
import KE.KDictKeyed
import KE.KDictWalk
import HandS.ExcInit
import HandS.ExcField
import HandS.TryMany
import HandS.CallSlots
import KE.LtData
import HandS.Replace
import PyProof.Draws
import HandS.Conv
import HandS.RevTup
import HandS.Rev
import PyProof.JoinWalk
import HandS.Zip
import HandS.More
import HandS.EndTab
import HandS.WordsExc
import HandS.Defaults
import HandS.ExcCtx
import HandS.HotCalls
import KE.KExcIs
import HandS.ExcIs
import HandS.Strs
import HandS.Star
import KE.KIntText
import KE.SortKeyHeap
import HandS.SortKw
import HandS.DictComp
import HandS.HeadHook3
import KE.DataMinKey
import HandS.Nested
import HandS.Property
import KE.KDictPairs
import KE.DataEq
import HandS.RaiseMore
import KE.KDictZip
import KE.KDictDisplayH
import KE.GoesZip
import KE.GoesMore
import KE.KDictCopyH
import PySem.Challenge.RW_talkalike_k09_all_classes
set_option Elab.async false
set_option linter.all false
set_option maxRecDepth 100000
set_option maxHeartbeats 4000000
namespace Dw
noncomputable section
open PySem PySem.Spec PyProof.Rows L2
/-- a test that is not to be reckoned out -/
noncomputable def okP (p : Prop) : Bool := @decide p (Classical.propDecidable p)
theorem okP_iff {p : Prop} : okP p = true ↔ p := @decide_eq_true_iff p (Classical.propDecidable p)
/-- where the classes of one's own stand; the world -/
class Glo where
  C : Str → Addr → Prop
  w : World
  /-- classes of one's own that are no exceptions -/
  S : Str → Addr → Prop
variable [Glo]
inductive D where
  | non | bl (b : Bool) | int (i : Int) | str (x : List Nat) | lst (xs : List D) | tup (xs : List D)
  /-- a dict, its keys and values in order | an instance of the class c, its attributes -/
  | dct (ks vs : List D) | ins (c : Str) (ns : List Str) (xs : List D)
  /-- a dict whose keys are tuples -/
  | dcu (ks vs : List D)
  deriving Inhabited
def mk (x : List Nat) : Str := ⟨x.toArray⟩
theorem mk_len (x : List Nat) : (mk x).length = x.length := by simp [mk, Str.length]
theorem mk_of (s : Str) : mk s.cps.toList = s := by cases s; simp [mk]
theorem mk_app (x y : List Nat) : mk x ++ mk y = mk (x ++ y) := by
  show Str.append _ _ = _
  simp [Str.append, mk]
theorem mk_inj {x y : List Nat} (h : mk x = mk y) : x = y := by
  have := congrArg (fun s : Str => s.cps.toList) h
  simpa [mk] using this
/-- a key of a dict, as data -/
def kD : Key → D
  | .inl i => .int i
  | .inr x => .str x.cps.toList
mutual
def nkD : D → Option NestedKey
  | .non => some .none
  | .bl b => some (.num (if b = true then 1 else 0))
  | .int i => some (.num i)
  | .str x => some (.text (mk x))
  | .tup xs => (nkDs xs).map .tup
  | _ => none
def nkDs : List D → Option (List NestedKey)
  | [] => some []
  | x :: xs => (nkD x).bind fun k => (nkDs xs).map fun ks => k :: ks
end
/-- the dict at a, its keys tuples: what is true of its object -/
def dxO (w : World) (a : Addr) (xs : List (NestedKey × Addr × Value)) : HO := .ext fun h => ∃ o es ep, h.get? a = some o ∧ o.ExactDict ∧ o.data = .dict es ep ∧ es.toList = xs.map (fun x => (⟨x.1.hash w, .ref x.2.1, x.2.2⟩ : DictEntry)) ∧ (xs.map (·.1)).Nodup ∧ (∀ x ∈ xs, x.1.depth ≤ 8) ∧ (a == sysModules) = false ∧ xs.length ≤ sizeLine
mutual
inductive Rel (K : PySem.W.Frag) (F : Hp) : V → D → Prop
  | non : Rel K F .non .non
  | bl (b : Bool) : Rel K F (.bl b) (.bl b)
  | int (i : Int) : Rel K F (.int i) (.int i)
  | str (x : List Nat) : Rel K F (.str (mk x)) (.str x)
  | lst {a : Addr} {xs : List V} {ds : List D} : SqL K F a xs → RelAll K F xs ds → Rel K F (.ref a) (.lst ds)
  | tup {a : Addr} {xs : List V} {ds : List D} : SqT K F a xs → RelAll K F xs ds → Rel K F (.ref a) (.tup ds)
  | dct {a : Addr} {kvs : List (Key × V)} {ks vs : List D} : F a = some (.dK kvs) → kvs.map (fun e => kD e.1) = ks → RelAll K F (kvs.map (·.2)) vs → Rel K F (.ref a) (.dct ks vs)
  | ins {a C dx : Addr} {c : Str} {fs : List (Str × V)} {ns : List Str} {xs : List D} : F a = some (.ins C dx fs) → Glo.S c C → fs.map (·.1) = ns → RelAll K F (fs.map (·.2)) xs → Rel K F (.ref a) (.ins c ns xs)
  | dcu {a : Addr} {es : List (NestedKey × Addr × Value)} {us : List V} {ks vs : List D} : F a = some (dxO Glo.w a es) → ks.map nkD = es.map (fun x => some x.1) → RelAll K F (es.map fun x => .ref x.2.1) ks → Vals us (es.map (·.2.2)) → RelAll K F us vs → Rel K F (.ref a) (.dcu ks vs)
inductive RelAll (K : PySem.W.Frag) (F : Hp) : List V → List D → Prop
  | nil : RelAll K F [] []
  | cons {v : V} {vs : List V} {d : D} {ds : List D} : Rel K F v d → RelAll K F vs ds → RelAll K F (v :: vs) (d :: ds)
end
/-- heaps that grow -/
def Ex (H H' : Hp) : Prop := ∀ a o, H a = some o → H' a = some o
theorem Ex.refl (H : Hp) : Ex H H := fun _ _ h => h
theorem Ex.trans {H H1 H2 : Hp} (a : Ex H H1) (b : Ex H1 H2) : Ex H H2 := fun x o h => b x o (a x o h)
theorem Ex.new {H : Hp} {p : Addr} {o : HO} (h : H p = none) : Ex H (upd H p o) := fun a u e => by
  rw [upd_ne (ne_of_none e h)]
  exact e
theorem ex_rd {H H' : Hp} {a : Addr} {u : HO} (e : Ex H H') (h : Rd H a u) : Rd H' a u := by
  rcases h with h | ⟨o, h⟩
  · exact Or.inl (e a _ h)
  · exact Or.inr ⟨o, e a _ h⟩
theorem ex_l {K : PySem.W.Frag} {H H' : Hp} {a : Addr} {xs : List V} (e : Ex H H') (h : SqL K H a xs) : SqL K H' a xs := by
  rcases h with h | h
  · exact Or.inl (ex_rd e h)
  · exact Or.inr h
theorem ex_t {K : PySem.W.Frag} {H H' : Hp} {a : Addr} {xs : List V} (e : Ex H H') (h : SqT K H a xs) : SqT K H' a xs := by
  rcases h with h | h
  · exact Or.inl (ex_rd e h)
  · exact Or.inr h
section
variable {K : PySem.W.Frag} {F F' : Hp}
mutual
theorem Rel.mono (e : Ex F F') : ∀ (d : D) (v : V), Rel K F v d → Rel K F' v d
  | .non, _, h => by cases h; exact .non
  | .bl _, _, h => by cases h; exact .bl _
  | .int _, _, h => by cases h; exact .int _
  | .str _, _, h => by cases h; exact .str _
  | .lst ds, _, h => by
    cases h with
    | lst s r => exact .lst (ex_l e s) (RelAll.mono e ds _ r)
  | .tup ds, _, h => by
    cases h with
    | tup s r => exact .tup (ex_t e s) (RelAll.mono e ds _ r)
  | .dct ks vs, _, h => by
    cases h with
    | dct s k q => exact .dct (e _ _ s) k (RelAll.mono e vs _ q)
  | .ins c ns xs, _, h => by
    cases h with
    | ins s c n r => exact .ins (e _ _ s) c n (RelAll.mono e xs _ r)
  | .dcu ks vs, _, h => by
    cases h with
    | dcu s n k u r => exact .dcu (e _ _ s) n (RelAll.mono e ks _ k) u (RelAll.mono e vs _ r)
theorem RelAll.mono (e : Ex F F') : ∀ (ds : List D) (vs : List V), RelAll K F vs ds → RelAll K F' vs ds
  | [], _, h => by cases h; exact .nil
  | d :: ds, _, h => by
    cases h with
    | cons a b => exact .cons (Rel.mono e d _ a) (RelAll.mono e ds _ b)
end
theorem Rel.up (e : Ex F F') {d : D} {v : V} (h : Rel K F v d) : Rel K F' v d := Rel.mono e d v h
theorem RelAll.up (e : Ex F F') {ds : List D} {vs : List V} (h : RelAll K F vs ds) : RelAll K F' vs ds := RelAll.mono e ds vs h
theorem RelAll.len : ∀ {vs : List V} {ds : List D}, RelAll K F vs ds → vs.length = ds.length
  | _, [], h => by cases h; rfl
  | _, d :: ds, h => by
    cases h with
    | cons a b => simp [RelAll.len b]
theorem RelAll.app : ∀ {vs ws : List V} {ds es : List D}, RelAll K F vs ds → RelAll K F ws es → RelAll K F (vs ++ ws) (ds ++ es)
  | _, _, [], _, h, g => by cases h; exact g
  | _, _, d :: ds, _, h, g => by
    cases h with
    | cons a b => exact .cons a (RelAll.app b g)
theorem RelAll.get : ∀ {vs : List V} {ds : List D} {i : Nat} {v : V}, RelAll K F vs ds → vs[i]? = some v → ∃ d, ds[i]? = some d ∧ Rel K F v d
  | _, [], _, _, h, e => by cases h; simp at e
  | _, d :: ds, i, v, h, e => by
    cases h with
    | cons a b =>
      cases i with
      | zero =>
        simp at e
        subst e
        exact ⟨d, rfl, a⟩
      | succ i =>
        obtain ⟨d', e', r⟩ := RelAll.get (i := i) b (by simpa using e)
        exact ⟨d', by simpa using e', r⟩
theorem RelAll.getD : ∀ {vs : List V} {ds : List D} {i : Nat} {d : D}, RelAll K F vs ds → ds[i]? = some d → ∃ v, vs[i]? = some v ∧ Rel K F v d
  | _, [], _, _, h, e => by simp at e
  | _, d :: ds, i, x, h, e => by
    cases h with
    | cons a b =>
      cases i with
      | zero =>
        simp at e
        subst e
        exact ⟨_, rfl, a⟩
      | succ i =>
        obtain ⟨d', e', r⟩ := RelAll.getD (i := i) b (by simpa using e)
        exact ⟨d', by simpa using e', r⟩
theorem RelAll.take : ∀ {vs : List V} {ds : List D} (n : Nat), RelAll K F vs ds → RelAll K F (vs.take n) (ds.take n)
  | _, _, 0, _ => by simp; exact .nil
  | _, [], n + 1, h => by cases h; simp; exact .nil
  | _, d :: ds, n + 1, h => by
    cases h with
    | cons a b => exact .cons a (RelAll.take n b)
theorem RelAll.drop : ∀ {vs : List V} {ds : List D} (n : Nat), RelAll K F vs ds → RelAll K F (vs.drop n) (ds.drop n)
  | _, _, 0, h => by simpa using h
  | _, [], n + 1, h => by cases h; simp; exact .nil
  | _, d :: ds, n + 1, h => by
    cases h with
    | cons a b => simpa using RelAll.drop n b
theorem RelAll.set : ∀ {vs : List V} {ds : List D} (i : Nat) {v : V} {d : D}, RelAll K F vs ds → Rel K F v d → RelAll K F (vs.set i v) (ds.set i d)
  | _, [], _, _, _, h, _ => by cases h; exact .nil
  | _, d :: ds, 0, _, _, h, r => by
    cases h with
    | cons a b => exact .cons r b
  | _, d :: ds, i + 1, _, _, h, r => by
    cases h with
    | cons a b => exact .cons a (RelAll.set i b r)
theorem RelAll.ints : ∀ (ns : List Int), RelAll K F (ns.map V.int) (ns.map D.int)
  | [] => .nil
  | n :: r => .cons (.int n) (RelAll.ints r)
end
/-- the content of a thing that is one's own -/
inductive C where
  | lst (xs : List D)
  | dct (ks vs : List D)
  | ins (c : Str) (ns : List Str) (xs : List D)
  | dcu (ks vs : List D)
def CellOk (K : PySem.W.Frag) (F : Hp) (p : Addr) (o : HO) : C → Prop
  | .lst ds => ∃ vs, o = .lst vs ∧ RelAll K F vs ds
  | .dct ks vs => ∃ kvs : List (Key × V), o = .dK kvs ∧ kvs.map (fun e => kD e.1) = ks ∧ RelAll K F (kvs.map (·.2)) vs
  | .ins c ns xs => ∃ (C dx : Addr) (fs : List (Str × V)), o = .ins C dx fs ∧ Glo.S c C ∧ fs.map (·.1) = ns ∧ RelAll K F (fs.map (·.2)) xs
  | .dcu ks vs => ∃ (es : List (NestedKey × Addr × Value)) (us : List V), o = dxO Glo.w p es ∧ ks.map nkD = es.map (fun x => some x.1) ∧ RelAll K F (es.map fun x => .ref x.2.1) ks ∧ Vals us (es.map (·.2.2)) ∧ RelAll K F us vs
theorem CellOk.up {K : PySem.W.Frag} {F F' : Hp} {p : Addr} {o : HO} (e : Ex F F') : ∀ {c : C}, CellOk K F p o c → CellOk K F' p o c
  | .lst _, ⟨vs, h, r⟩ => ⟨vs, h, r.up e⟩
  | .dct _ _, ⟨kvs, h, k, q⟩ => ⟨kvs, h, k, q.up e⟩
  | .ins _ _ _, ⟨C, dx, fs, h, c, n, r⟩ => ⟨C, dx, fs, h, c, n, r.up e⟩
  | .dcu _ _, ⟨es, us, h, n, k, u, r⟩ => ⟨es, us, h, n, k.up e, u, r.up e⟩
theorem CellOk.noT {K : PySem.W.Frag} {F : Hp} {p : Addr} {o : HO} : ∀ {c : C}, CellOk K F p o c → ∀ ps, o ≠ .tbl ps
  | .lst _, ⟨vs, h, _⟩, ps, z => by rw [h] at z; cases z
  | .dct _ _, ⟨_, h, _⟩, ps, z => by rw [h] at z; cases z
  | .ins _ _ _, ⟨_, _, _, h, _⟩, ps, z => by rw [h] at z; cases z
  | .dcu _ _, ⟨_, _, h, _⟩, ps, z => by rw [h] at z; cases z
/-- a thing of one's own, as data -/
def cD : C → D
  | .lst xs => .lst xs
  | .dct ks vs => .dct ks vs
  | .ins c ns xs => .ins c ns xs
  | .dcu ks vs => .dcu ks vs
theorem CellOk.rel {K : PySem.W.Frag} {F : Hp} {p : Addr} {o : HO} (e : F p = some o) : ∀ {c : C}, CellOk K F p o c → Rel K F (.ref p) (cD c)
  | .lst _, ⟨vs, h, r⟩ => .lst (.inl (Rd.of (by rw [e, h]))) r
  | .dct _ _, ⟨kvs, h, k, q⟩ => .dct (by rw [e, h]) k q
  | .ins _ _ _, ⟨C, dx, fs, h, c, n, r⟩ => .ins (by rw [e, h]) c n r
  | .dcu _ _, ⟨es, us, h, n, k, u, r⟩ => .dcu (by rw [e, h]) n k u r
/-- an exception: the name of its class, its attributes -/
structure Xn where
  cls : Str
  fs : List (Str × D)
/-- own true: a thing that was handed in, and goes back to the caller -/
inductive SV where
  | un | d (x : D) | own (b : Bool) (c : C)
  /-- the exception that is handled -/
  | xn (e : Xn)
/-- which tables of code stand apart; the exception that is handled -/
class Tabs where
  T : Addr → Prop
  X : Option (Addr × Value × Option Addr)
  L : Addr → Option Str
/-- how an exception's own dict lies in the heap -/
def XnAt (K : PySem.W.Frag) (F : Hp) (e : Xn) (cls : Value) (d : Option Addr) : Prop :=
  ∃ (C : Addr), Glo.C e.cls C ∧ cls = .ref C ∧ ∃ dd vfs, d = some dd ∧ F dd = some (.xd vfs) ∧ vfs.map (·.1) = e.fs.map (·.1) ∧ RelAll K F (vfs.map (·.2)) (e.fs.map (·.2))
theorem XnAt.up {K : PySem.W.Frag} {F F' : Hp} {e : Xn} {cls : Value} {d : Option Addr} (x : Ex F F') : XnAt K F e cls d → XnAt K F' e cls d :=
  fun ⟨C, h1, h2, dd, vfs, h3, h4, h5, h6⟩ => ⟨C, h1, h2, dd, vfs, h3, x _ _ h4, h5, h6.up x⟩
variable [Tabs]
/-- a table of code: where it holds lambdas' code (L), each is a code object that stands -/
def TrOk (F : Hp) (P : Addr) (ps : Array Value) : Prop := TriplesOk ps.toList ∧ ∀ q, Tabs.L P = some q → ∀ (pos : Pos) (cv : Value), codeAmong pos ps.toList = some cv → ∃ c, cv = .ref c ∧ F c = some (LamX.CodeO c q)
theorem TrOk.up {F F' : Hp} {P : Addr} {ps : Array Value} (h : TrOk F P ps) (e : Ex F F') : TrOk F' P ps := ⟨h.1, fun q hq pos cv hc => let ⟨c, h1, h2⟩ := h.2 q hq pos cv hc; ⟨c, h1, e _ _ h2⟩⟩
def TabD (F H : Hp) (P : Addr) : Prop := ∃ ps : Array Value, H P = some (.tbl ps) ∧ TrOk F P ps
theorem TabD.up {F F' H : Hp} {P : Addr} (e : Ex F F') : TabD F H P → TabD F' H P := fun ⟨ps, h1, h2⟩ => ⟨ps, h1, h2.up e⟩
theorem TabD.g {F H : Hp} {P : Addr} : TabD F H P → GxR.TabG H P := fun ⟨ps, h1, h2⟩ => ⟨ps, h1, h2.1⟩
/-- what the caller keeps: things that stand as they are; where the things that were handed in stand -/
structure Fm where
  r : Hp
  t : Nat → Addr
  T : Addr → Prop
def FEx (R R' : Fm) : Prop := Ex R.r R'.r ∧ (R.t, R.T) = (R'.t, R'.T)
theorem FEx.t {R R' : Fm} (e : FEx R R') : R.t = R'.t := congrArg Prod.fst e.2
theorem FEx.T {R R' : Fm} (e : FEx R R') : R.T = R'.T := congrArg Prod.snd e.2
theorem FEx.refl (R : Fm) : FEx R R := ⟨Ex.refl _, rfl⟩
abbrev Sl := List SV
/-- a value in passing -/
inductive RV where
  | d (x : D) | own (c : C) | cv (i : Nat)
structure Sta (K : PySem.W.Frag) (F : Hp) (R : Fm) (σ : L2.St) (H : Hp) (env : Sl) : Prop where
  sub : Ex F H
  fr : Ex R.r H
  dis : ∀ b o, R.r b = some o → F b = none
  len : σ.length = env.length
  dat : ∀ (i : Nat) x, env[i]? = some (SV.d x) → ∃ v, σ[i]? = some (some v) ∧ Rel K F v x
  own : ∀ (i : Nat) b c, env[i]? = some (SV.own b c) → ∃ p o, σ[i]? = some (some (V.ref p)) ∧ F p = none ∧ R.r p = none ∧ H p = some o ∧ CellOk K F p o c
  tag : ∀ (i : Nat) c, env[i]? = some (SV.own true c) → σ[i]? = some (some (V.ref (R.t i)))
  inj : ∀ (i j : Nat) bi ci bj cj p, env[i]? = some (SV.own bi ci) → env[j]? = some (SV.own bj cj) → σ[i]? = some (some (V.ref p)) → σ[j]? = some (some (V.ref p)) → i = j
  xn : ∀ (i : Nat) e, env[i]? = some (SV.xn e) → ∃ a cls d, Tabs.X = some (a, cls, d) ∧ σ[i]? = some (some (V.ref a)) ∧ XnAt K F e cls d
  tab : ∀ P, Tabs.T P → TabD F H P ∧ F P = none ∧ R.r P = none
def RvOk (K : PySem.W.Frag) (F : Hp) (R : Fm) (σ : L2.St) (H : Hp) (env : Sl) (v : V) : RV → Prop
  | .d x => Rel K F v x
  | .own c => ∃ p o, v = .ref p ∧ F p = none ∧ R.r p = none ∧ H p = some o ∧ CellOk K F p o c ∧ ∀ (i : Nat) b c', env[i]? = some (SV.own b c') → σ[i]? ≠ some (some (V.ref p))
  | .cv i => σ[i]? = some (some v)
inductive Re where
  | ok (a : RV) (env : Sl) | ex (e : Xn) (env : Sl)
abbrev SE := Sl → Option Re
def bindE (x : Option Re) (k : RV → SE) : Option Re :=
  match x with
  | some (.ok a env) => k a env
  | some (.ex e env) => some (.ex e env)
  | none => none
@[simp] theorem bindE_ok {a : RV} {env : Sl} {k : RV → SE} : bindE (some (.ok a env)) k = k a env := rfl
@[simp] theorem bindE_ex {e : Xn} {env : Sl} {k : RV → SE} : bindE (some (.ex e env)) k = some (.ex e env) := rfl
@[simp] theorem bindE_none {k : RV → SE} : bindE none k = none := rfl
section
variable (K : PySem.W.Frag) (W : WX)
def PostE (F : Hp) (R : Fm) (σ : L2.St) (r : Re) (Q : VK) : Prop :=
  match r with
  | .ok a env' => ∀ v F' H', Ex F F' → Sta K F' R σ H' env' → RvOk K F' R σ H' env' v a → Q v H'
  | .ex e env' => ∀ cls d F' H', Ex F F' → Sta K F' R σ H' env' → XnAt K F' e cls d → W cls d σ H'
/-- what an expression asks: its meaning is f -/
def dE (f : SE) : TE := fun σ H Q => ∃ env F R r, Sta K F R σ H env ∧ f env = some r ∧ PostE K W F R σ r Q
end
section
variable {K : PySem.W.Frag} {W : WX} {F F' : Hp} {R : Fm} {σ : L2.St} {H : Hp} {Q : VK}
theorem PostE.up (e : Ex F F') : ∀ {r : Re}, PostE K W F R σ r Q → PostE K W F' R σ r Q
  | .ok _ _, h => fun v F2 H2 e2 s q => h v F2 H2 (e.trans e2) s q
  | .ex _ _, h => fun c d F2 H2 e2 s q => h c d F2 H2 (e.trans e2) s q
theorem dE.mono {f g : SE} (h : ∀ env r, g env = some r → f env = some r) (q : dE K W g σ H Q) : dE K W f σ H Q := by
  obtain ⟨env, F, R, r, s, e, p⟩ := q
  exact ⟨env, F, R, r, s, h env r e, p⟩
end
/-- a weaker reading -/
theorem _root_.L2.PE.wk {X : Cx} {e : Expr} {t u : TE} (h : PE X e t) (w : ∀ σ H Q, u σ H Q → t σ H Q) : PE X e u := ⟨fun pins s σ H Q I q => h.run pins s σ H Q I (w σ H Q q)⟩
section
variable {K : PySem.W.Frag} {F F' F2 : Hp} {R R' : Fm} {σ : L2.St} {H H' : Hp} {env : Sl}
theorem ex_none {R R' : Hp} {q : Addr} (e : Ex R R') (h : R' q = none) : R q = none := by
  cases z : R q with
  | none => rfl
  | some u => rw [e q u z] at h; cases h
theorem Sta.xnUp (S : Sta K F R σ H env) (e : Ex F F') : ∀ (i : Nat) x, env[i]? = some (SV.xn x) → ∃ a cls d, Tabs.X = some (a, cls, d) ∧ σ[i]? = some (some (V.ref a)) ∧ XnAt K F' x cls d := fun i x q =>
  let ⟨a, cls, d, h1, h2, h3⟩ := S.xn i x q
  ⟨a, cls, d, h1, h2, h3.up e⟩
theorem Sta.xnNe (S : Sta K F R σ H env) (e : Ex F F') {i : Nat} {s : SV} (hs : ∀ x, s ≠ .xn x) : ∀ (j : Nat) x, (env.set i s)[j]? = some (SV.xn x) → j ≠ i ∧ ∃ a cls d, Tabs.X = some (a, cls, d) ∧ σ[j]? = some (some (V.ref a)) ∧ XnAt K F' x cls d := fun j x q => by
  by_cases hj : j = i
  · subst hj
    by_cases hl : j < env.length
    · rw [List.getElem?_set_self hl] at q
      exact absurd (Option.some.inj q) (hs x)
    · rw [List.getElem?_eq_none (by rw [List.length_set]; omega)] at q
      cases q
  · rw [List.getElem?_set_ne (Ne.symm hj)] at q
    exact ⟨hj, S.xnUp e j x q⟩
theorem Sta.xnSet (S : Sta K F R σ H env) (e : Ex F F') {i : Nat} {s : SV} (v : Option V) (hs : ∀ x, s ≠ .xn x) : ∀ (j : Nat) x, (env.set i s)[j]? = some (SV.xn x) → ∃ a cls d, Tabs.X = some (a, cls, d) ∧ (σ.set i v)[j]? = some (some (V.ref a)) ∧ XnAt K F' x cls d := fun j x q => by
  obtain ⟨hj, h⟩ := S.xnNe e hs j x q
  rw [List.getElem?_set_ne (Ne.symm hj)]
  exact h
/-- a new object, frozen at once -/
theorem Sta.freshF (S : Sta K F R σ H env) {p : Addr} {o : HO} (hp : H p = none) : Sta K (upd F p o) R σ (upd H p o) env := by
  have hF : F p = none := ex_none S.sub hp
  have hR : R.r p = none := ex_none S.fr hp
  refine ⟨fun a u e => ?_, fun a u e => ?_, fun b u e => ?_, S.len, fun i x e => ?_, fun i b c e => ?_, S.tag, S.inj, S.xnUp (Ex.new hF), fun P h => ?_⟩
  rotate_right
  · obtain ⟨⟨ps, h1, h2⟩, h3, h4⟩ := S.tab P h
    have n : P ≠ p := fun z => by rw [z, hp] at h1; cases h1
    exact ⟨⟨ps, by rw [upd_ne n]; exact h1, h2.up (Ex.new hF)⟩, by rw [upd_ne n]; exact h3, h4⟩
  · by_cases h : a = p
    · subst h; rw [upd_same] at e ⊢; exact e
    · rw [upd_ne h] at e ⊢; exact S.sub a u e
  · exact Ex.new hp a u (S.fr a u e)
  · have h : b ≠ p := fun h => by rw [h, hR] at e; cases e
    rw [upd_ne h]
    exact S.dis b u e
  · obtain ⟨v, e1, r⟩ := S.dat i x e
    exact ⟨v, e1, r.up (Ex.new hF)⟩
  · obtain ⟨q, u, e1, e2, e3, e4, e5⟩ := S.own i b c e
    have h : q ≠ p := fun h => by rw [h, hp] at e4; cases e4
    exact ⟨q, u, e1, by rw [upd_ne h]; exact e2, e3, by rw [upd_ne h]; exact e4, e5.up (Ex.new hF)⟩
theorem Sta.freeF (S : Sta K F R σ H env) {p : Addr} (hp : H p = none) : F p = none := ex_none S.sub hp
theorem Sta.freeR (S : Sta K F R σ H env) {p : Addr} (hp : H p = none) : R.r p = none := ex_none S.fr hp
/-- a new object, not frozen -/
theorem Sta.freshH (S : Sta K F R σ H env) {p : Addr} {o : HO} (hp : H p = none) : Sta K F R σ (upd H p o) env := by
  refine ⟨S.sub.trans (Ex.new hp), S.fr.trans (Ex.new hp), S.dis, S.len, S.dat, fun i b c e => ?_, S.tag, S.inj, S.xn, fun P h => let ⟨⟨ps, h1, h2⟩, h3⟩ := S.tab P h; ⟨⟨ps, Ex.new hp P _ h1, h2⟩, h3⟩⟩
  obtain ⟨q, u, e1, e2, e3, e4, e5⟩ := S.own i b c e
  exact ⟨q, u, e1, e2, e3, Ex.new hp q u e4, e5⟩
/-- a temporary thing p is put aside: it stands in the rest -/
theorem Sta.hold (S : Sta K F R σ H env) {p : Addr} {o : HO} (hF : F p = none) (hp : H p = some o) (ht : ∀ ps, o ≠ .tbl ps) (hs : ∀ (i : Nat) b c', env[i]? = some (SV.own b c') → σ[i]? ≠ some (some (V.ref p))) : Sta K F ⟨upd R.r p o, R.t, R.T⟩ σ H env := by
  refine ⟨S.sub, fun a u e => ?_, fun b u e => ?_, S.len, S.dat, fun i b c e => ?_, S.tag, S.inj, S.xn, fun P h => ?_⟩
  rotate_right
  · obtain ⟨⟨ps, h1, h2⟩, h3, h4⟩ := S.tab P h
    have n : P ≠ p := fun z => by rw [z, hp] at h1; exact ht ps (Option.some.inj h1)
    exact ⟨⟨ps, h1, h2⟩, h3, by show upd R.r p o P = none; rw [upd_ne n]; exact h4⟩
  · by_cases h : a = p
    · subst h
      have e : upd R.r a o a = some u := e
      rw [upd_same] at e; cases e; exact hp
    · have e : upd R.r p o a = some u := e
      rw [upd_ne h] at e; exact S.fr a u e
  · by_cases h : b = p
    · subst h; exact hF
    · have e : upd R.r p o b = some u := e
      rw [upd_ne h] at e; exact S.dis b u e
  · obtain ⟨q, u, e1, e2, e3, e4, e5⟩ := S.own i b c e
    have h : q ≠ p := fun h => hs i b c e (by rw [← h]; exact e1)
    exact ⟨q, u, e1, e2, by show upd R.r p o q = none; rw [upd_ne h]; exact e3, e4, e5⟩
theorem Sta.unhold (S : Sta K F R' σ H env) (e : FEx R R') : Sta K F R σ H env := by
  refine ⟨S.sub, e.1.trans S.fr, fun b u q => S.dis b u (e.1 b u q), S.len, S.dat, fun i b c h => ?_, fun i c h => by rw [e.t]; exact S.tag i c h, S.inj, S.xn, fun P h => let ⟨h1, h2, h3⟩ := S.tab P h; ⟨h1, h2, ex_none e.1 h3⟩⟩
  obtain ⟨q, u, e1, e2, e3, e4, e5⟩ := S.own i b c h
  exact ⟨q, u, e1, e2, ex_none e.1 e3, e4, e5⟩
/-- what holds of a value when it was put aside -/
def Held (K : PySem.W.Frag) (F : Hp) (R R' : Fm) (σ : L2.St) (v : V) : RV → Prop
  | .d x => Rel K F v x
  | .own c => ∃ p o, v = .ref p ∧ R.r p = none ∧ R'.r p = some o ∧ CellOk K F p o c
  | .cv i => σ[i]? = some (some v)
theorem hold {a : RV} {v : V} (S : Sta K F R σ H env) (h : RvOk K F R σ H env v a) : ∃ R', FEx R R' ∧ Sta K F R' σ H env ∧ Held K F R R' σ v a := by
  cases a with
  | d x => exact ⟨R, FEx.refl R, S, h⟩
  | cv i => exact ⟨R, FEx.refl R, S, h⟩
  | own c =>
    obtain ⟨p, o, e1, e2, e3, e4, e5, e6⟩ := h
    exact ⟨⟨upd R.r p o, R.t, R.T⟩, ⟨Ex.new e3, rfl⟩, S.hold e2 e4 e5.noT e6, p, o, e1, e3, upd_same, e5⟩
theorem unheld {a : RV} {v : V} (e : Ex F F') (eR : FEx R R') (S : Sta K F' R' σ H' env) (h : Held K F R R' σ v a) : RvOk K F' R σ H' env v a := by
  cases a with
  | d x => exact Rel.up e h
  | cv i => exact h
  | own c =>
    obtain ⟨p, o, e1, e3, e4, e5⟩ := h
    refine ⟨p, o, e1, S.dis p o e4, e3, S.fr p o e4, e5.up e, fun i b c' q z => ?_⟩
    obtain ⟨q1, u, z1, _, z3, _⟩ := S.own i b c' q
    rw [z] at z1
    cases z1
    rw [e4] at z3
    cases z3
theorem RvOk.unhold {a : RV} {v : V} (e : FEx R R') (h : RvOk K F R' σ H env v a) : RvOk K F R σ H env v a := by
  cases a with
  | d x => exact h
  | cv i => exact h
  | own c =>
    obtain ⟨p, o, e1, e2, e3, e4, e5, e6⟩ := h
    exact ⟨p, o, e1, e2, ex_none e.1 e3, e4, e5, e6⟩
end
end
end Dw
namespace Dw
noncomputable section
open PySem PySem.Spec PyProof.Rows L2
variable [Glo] [Tabs]
section
variable (K : PySem.W.Frag) (W : WX)
def atE (f : SE) (F : Hp) (R : Fm) (σ : L2.St) (env : Sl) (Q : VK) : Prop := ∃ r, f env = some r ∧ PostE K W F R σ r Q
end
section
variable {K : PySem.W.Frag} {W : WX} {F F' : Hp} {R R' : Fm} {σ : L2.St} {H H' : Hp} {env : Sl} {Q Q1 : VK}
theorem dE_of {f : SE} (S : Sta K F R σ H env) (h : atE K W f F R σ env Q) : dE K W f σ H Q := let ⟨r, e, p⟩ := h; ⟨env, F, R, r, S, e, p⟩
theorem of_dE {f : SE} (h : dE K W f σ H Q) : ∃ env F R, Sta K F R σ H env ∧ atE K W f F R σ env Q := let ⟨env, F, R, r, S, e, p⟩ := h; ⟨env, F, R, S, r, e, p⟩
theorem atE.up {f : SE} (e : Ex F F') (h : atE K W f F R σ env Q) : atE K W f F' R σ env Q := let ⟨r, q, p⟩ := h; ⟨r, q, p.up e⟩
theorem PostE.un (e : FEx R R') : ∀ {r : Re}, PostE K W F R σ r Q → PostE K W F R' σ r Q
  | .ok _ _, h => fun v F2 H2 e2 s q => h v F2 H2 e2 (s.unhold e) (q.unhold e)
  | .ex _ _, h => fun c d F2 H2 e2 s q => h c d F2 H2 e2 (s.unhold e) q
theorem atE.un {f : SE} (e : FEx R R') (h : atE K W f F R σ env Q) : atE K W f F R' σ env Q := let ⟨r, q, p⟩ := h; ⟨r, q, p.un e⟩
theorem atE_bindR {f : SE} {k : RV → SE} (eR : FEx R R') (h : atE K W (fun env => bindE (f env) k) F R σ env Q)
    (hk : ∀ a env1 F1 v H1, Ex F F1 → Sta K F1 R' σ H1 env1 → RvOk K F1 R' σ H1 env1 v a → atE K W (k a) F1 R σ env1 Q → Q1 v H1) : atE K W f F R' σ env Q1 := by
  obtain ⟨r, e, p⟩ := h
  cases hf : f env with
  | none =>
    rw [show (fun env => bindE (f env) k) env = none by simp only [hf, bindE_none]] at e
    cases e
  | some r1 =>
    cases r1 with
    | ok a env1 =>
      rw [show (fun env => bindE (f env) k) env = k a env1 by simp only [hf, bindE_ok]] at e
      exact ⟨_, hf, fun v F1 H1 e1 s1 rv => hk a env1 F1 v H1 e1 s1 rv ⟨r, e, p.up e1⟩⟩
    | ex x env1 =>
      rw [show (fun env => bindE (f env) k) env = some (.ex x env1) by simp only [hf, bindE_ex]] at e
      cases e
      exact ⟨_, hf, PostE.un (Q := Q1) eR (show PostE K W F R σ (.ex x env1) Q1 from p)⟩
theorem atE_bind {f : SE} {k : RV → SE} (h : atE K W (fun env => bindE (f env) k) F R σ env Q)
    (hk : ∀ a env1 F1 v H1, Ex F F1 → Sta K F1 R σ H1 env1 → RvOk K F1 R σ H1 env1 v a → atE K W (k a) F1 R σ env1 Q → Q1 v H1) : atE K W f F R σ env Q1 := atE_bindR (FEx.refl R) h hk
/-- two operands -/
def two (op : RV → RV → SE) (fa fb : SE) : SE := fun env => bindE (fa env) fun a env1 => bindE (fb env1) fun b env2 => op a b env2
theorem dE_two {fa fb : SE} {op : RV → RV → SE} {r : V → V → Hp → Prop} (h : dE K W (two op fa fb) σ H Q)
    (hk : ∀ a b env F R v w H', Sta K F R σ H' env → RvOk K F R σ H' env v a → RvOk K F R σ H' env w b → atE K W (op a b) F R σ env Q → r v w H') :
    dE K W fa σ H fun x H1 => dE K W fb σ H1 fun y H2 => r x y H2 := by
  obtain ⟨env, F, R, S, q⟩ := of_dE h
  refine dE_of S (atE_bind q fun a env1 F1 v H1 e1 S1 rv q1 => ?_)
  obtain ⟨R', eR, S1', hd⟩ := hold S1 rv
  exact dE_of S1' (atE_bindR eR q1 fun b env2 F2 w H2 e2 S2 rw' q2 => hk a b env2 F2 R v w H2 (S2.unhold eR) (unheld e2 eR S2 hd) (rw'.unhold eR) q2)
theorem dE_one {fa : SE} {op : RV → SE} {r : V → Hp → Prop} (h : dE K W (fun env => bindE (fa env) op) σ H Q)
    (hk : ∀ a env F R v H', Sta K F R σ H' env → RvOk K F R σ H' env v a → atE K W (op a) F R σ env Q → r v H') : dE K W fa σ H r := by
  obtain ⟨env, F, R, S, q⟩ := of_dE h
  exact dE_of S (atE_bind q fun a env1 F1 v H1 e1 S1 rv q1 => hk a env1 F1 R v H1 S1 rv q1)
def pkS : Option SV → Option D
  | some (.d x) => some x
  | some (.own _ c) => some (cD c)
  | _ => none
def pk (a : RV) (env : Sl) : Option D :=
  match a with
  | .d x => some x
  | .own c => some (cD c)
  | .cv i => pkS env[i]?
/-- a value as it is read now: a list's items are frozen, the list itself need not be -/
def Vw (K : PySem.W.Frag) (F H : Hp) (v : V) : D → Prop
  | .lst xs => ∃ p vs, v = .ref p ∧ SqL K H p vs ∧ RelAll K F vs xs
  | .dct ks vs => ∃ (p : Addr) (kvs : List (Key × V)), v = .ref p ∧ H p = some (.dK kvs) ∧ kvs.map (fun e => kD e.1) = ks ∧ RelAll K F (kvs.map (·.2)) vs
  | .ins c ns xs => ∃ (p C dx : Addr) (fs : List (Str × V)), v = .ref p ∧ H p = some (.ins C dx fs) ∧ Glo.S c C ∧ fs.map (·.1) = ns ∧ RelAll K F (fs.map (·.2)) xs
  | .dcu ks vs => ∃ (p : Addr) (es : List (NestedKey × Addr × Value)) (us : List V), v = .ref p ∧ H p = some (dxO Glo.w p es) ∧ ks.map nkD = es.map (fun x => some x.1) ∧ RelAll K F (es.map fun x => .ref x.2.1) ks ∧ Vals us (es.map (·.2.2)) ∧ RelAll K F us vs
  | x => Rel K F v x
theorem Vw.of (e : Ex F H) {v : V} {x : D} (h : Rel K F v x) : Vw K F H v x := by
  cases h with
  | lst s r => exact ⟨_, _, rfl, ex_l e s, r⟩
  | non => exact .non
  | bl b => exact .bl b
  | int i => exact .int i
  | str x => exact .str x
  | tup s r => exact .tup s r
  | dct s k q => exact ⟨_, _, rfl, e _ _ s, k, q⟩
  | ins s c n r => exact ⟨_, _, _, _, rfl, e _ _ s, c, n, r⟩
  | dcu s n k u r => exact ⟨_, _, _, rfl, e _ _ s, n, k, u, r⟩
theorem Vw.rel (e : Ex F H) {v : V} : ∀ {x : D}, Vw K F H v x → Rel K H v x
  | .lst _, ⟨p, vs, e1, s, r⟩ => by subst e1; exact .lst s (r.up e)
  | .dct _ _, ⟨p, kvs, e1, s, k, q⟩ => by subst e1; exact .dct s k (q.up e)
  | .ins _ _ _, ⟨p, C, dx, fs, e1, s, c, n, r⟩ => by subst e1; exact .ins s c n (r.up e)
  | .dcu _ _, ⟨p, es, us, e1, s, n, k, u, r⟩ => by subst e1; exact .dcu s n (k.up e) u (r.up e)
  | .non, h => Rel.up e h
  | .bl _, h => Rel.up e h
  | .int _, h => Rel.up e h
  | .str _, h => Rel.up e h
  | .tup _, h => Rel.up e h
theorem Vw.ofCell {p : Addr} {o : HO} {c : C} (hp : H p = some o) (h : CellOk K F p o c) : Vw K F H (.ref p) (cD c) := by
  cases c with
  | lst xs =>
    obtain ⟨vs, rfl, r⟩ := h
    exact ⟨p, vs, rfl, .inl (Rd.of hp), r⟩
  | dct ks vs =>
    obtain ⟨kvs, rfl, k, q⟩ := h
    exact ⟨p, kvs, rfl, hp, k, q⟩
  | ins c ns xs =>
    obtain ⟨C, dx, fs, rfl, c, n, r⟩ := h
    exact ⟨p, C, dx, fs, rfl, hp, c, n, r⟩
  | dcu ks vs =>
    obtain ⟨es, us, rfl, n, k, u, r⟩ := h
    exact ⟨p, es, us, rfl, hp, n, k, u, r⟩
theorem pk_vw {a : RV} {v : V} {x : D} (S : Sta K F R σ H env) (h : RvOk K F R σ H env v a) (e : pk a env = some x) : Vw K F H v x := by
  cases a with
  | d y => cases e; exact Vw.of S.sub h
  | own c =>
    cases e
    obtain ⟨p, o, rfl, _, _, hp, ho, _⟩ := h
    exact Vw.ofCell hp ho
  | cv i =>
    have h : σ[i]? = some (some v) := h
    have e : pkS env[i]? = some x := e
    cases hi : env[i]? with
    | none => rw [hi] at e; cases e
    | some s =>
      rw [hi] at e
      cases s with
      | un => cases e
      | xn _ => cases e
      | d y =>
        cases e
        obtain ⟨v', e', r⟩ := S.dat i x hi
        rw [h] at e'
        cases e'
        exact Vw.of S.sub r
      | own b c =>
        cases e
        obtain ⟨p, o, e', _, _, hp, ho⟩ := S.own i _ _ hi
        rw [h] at e'
        cases e'
        exact Vw.ofCell hp ho
/-- a value that is put into another thing: a thing of one's own is frozen -/
def frzS (i : Nat) (env : Sl) : Option SV → Option (D × Sl)
  | some (.d x) => some (x, env)
  | some (.own false c) => some (cD c, env.set i (.d (cD c)))
  | _ => none
def frz (a : RV) (env : Sl) : Option (D × Sl) :=
  match a with
  | .d x => some (x, env)
  | .own c => some (cD c, env)
  | .cv i => frzS i env env[i]?
theorem Sta.freeze (S : Sta K F R σ H env) {p : Addr} {o : HO} (hF : F p = none) (hR : R.r p = none) (hp : H p = some o) (ht : ∀ ps, o ≠ .tbl ps) (hs : ∀ (i : Nat) b c', env[i]? = some (SV.own b c') → σ[i]? ≠ some (some (V.ref p))) : Sta K (upd F p o) R σ H env := by
  have eF : Ex F (upd F p o) := Ex.new hF
  refine ⟨fun a u e => ?_, S.fr, fun b u e => ?_, S.len, fun i x e => ?_, fun i b c e => ?_, S.tag, S.inj, S.xnUp eF, fun P h => ?_⟩
  rotate_right
  · obtain ⟨⟨ps, h1, h2⟩, h3, h4⟩ := S.tab P h
    have n : P ≠ p := fun z => by rw [z, hp] at h1; exact ht ps (Option.some.inj h1)
    exact ⟨⟨ps, h1, h2.up eF⟩, by rw [upd_ne n]; exact h3, h4⟩
  · by_cases h : a = p
    · subst h; rw [upd_same] at e; cases e; exact hp
    · rw [upd_ne h] at e; exact S.sub a u e
  · have h : b ≠ p := fun h => by rw [h, hR] at e; cases e
    rw [upd_ne h]; exact S.dis b u e
  · obtain ⟨v, e1, r⟩ := S.dat i x e
    exact ⟨v, e1, r.up eF⟩
  · obtain ⟨q, u, e1, e2, e3, e4, e5⟩ := S.own i b c e
    have h : q ≠ p := fun h => hs i b c e (by rw [← h]; exact e1)
    exact ⟨q, u, e1, by rw [upd_ne h]; exact e2, e3, e4, e5.up eF⟩
theorem Sta.freezeSlot (S : Sta K F R σ H env) {i : Nat} {c0 : C} {p : Addr} {o : HO} {b0 : Bool} (hi : env[i]? = some (SV.own b0 c0)) (e1 : σ[i]? = some (some (V.ref p))) (hF : F p = none) (hR : R.r p = none) (hp : H p = some o) (ho : CellOk K F p o c0) :
    Sta K (upd F p o) R σ H (env.set i (.d (cD c0))) ∧ Rel K (upd F p o) (.ref p) (cD c0) := by
  have eF : Ex F (upd F p o) := Ex.new hF
  have rr : Rel K (upd F p o) (.ref p) (cD c0) := CellOk.rel upd_same (ho.up eF)
  have hl : i < env.length := (List.getElem?_eq_some_iff.mp hi).1
  have other : ∀ {j : Nat} {s : SV}, (env.set i (.d (cD c0)))[j]? = some s → (∀ x, s ≠ .d x) → j ≠ i ∧ env[j]? = some s := fun {j s} h hd => by
    by_cases hj : j = i
    · subst hj
      rw [List.getElem?_set_self hl] at h
      exact absurd (Option.some.inj h).symm (hd _)
    · rw [List.getElem?_set_ne (Ne.symm hj)] at h
      exact ⟨hj, h⟩
  have od : ∀ {b : Bool} {c : C} (x : D), SV.own b c ≠ .d x := fun x z => by cases z
  refine ⟨⟨fun a u e => ?_, S.fr, fun b u e => ?_, by rw [List.length_set]; exact S.len, fun j x e => ?_, fun j b c e => ?_, fun j c e => S.tag j c (other e od).2, fun j k bj cj bk ck q h1 h2 h3 h4 => ?_, fun j x e => S.xnUp eF j x (other e fun y z => by cases z).2, fun P h => ?_⟩, rr⟩
  rotate_right
  · obtain ⟨⟨ps, h1, h2⟩, h3, h4⟩ := S.tab P h
    have n : P ≠ p := fun z => by rw [z, hp] at h1; exact ho.noT ps (Option.some.inj h1)
    exact ⟨⟨ps, h1, h2.up eF⟩, by rw [upd_ne n]; exact h3, h4⟩
  · by_cases h : a = p
    · subst h; rw [upd_same] at e; cases e; exact hp
    · rw [upd_ne h] at e; exact S.sub a u e
  · have h : b ≠ p := fun h => by rw [h, hR] at e; cases e
    rw [upd_ne h]; exact S.dis b u e
  · by_cases hj : j = i
    · subst hj
      rw [List.getElem?_set_self hl] at e
      cases e
      exact ⟨_, e1, rr⟩
    · rw [List.getElem?_set_ne (Ne.symm hj)] at e
      obtain ⟨v, e1, r⟩ := S.dat j x e
      exact ⟨v, e1, r.up eF⟩
  · obtain ⟨hj, e⟩ := other e od
    obtain ⟨q, u, e2, e3, e4, e5, e6⟩ := S.own j b c e
    have h : q ≠ p := fun h => hj (S.inj j i b c b0 _ p e hi (by rw [← h]; exact e2) e1)
    exact ⟨q, u, e2, by rw [upd_ne h]; exact e3, e4, e5, e6.up eF⟩
  · exact S.inj j k bj cj bk ck q (other h1 od).2 (other h2 od).2 h3 h4
theorem frz_ok {a : RV} {v : V} {x : D} {env' : Sl} (S : Sta K F R σ H env) (h : RvOk K F R σ H env v a) (e : frz a env = some (x, env')) : ∃ F', Ex F F' ∧ Sta K F' R σ H env' ∧ Rel K F' v x := by
  cases a with
  | d y => cases e; exact ⟨F, Ex.refl F, S, h⟩
  | own c =>
    cases e
    obtain ⟨p, o, rfl, hF, hR, hp, ho, hs⟩ := h
    exact ⟨upd F p o, Ex.new hF, S.freeze hF hR hp ho.noT hs, CellOk.rel upd_same (ho.up (Ex.new hF))⟩
  | cv i =>
    have h : σ[i]? = some (some v) := h
    have e : frzS i env env[i]? = some (x, env') := e
    cases hi : env[i]? with
    | none => rw [hi] at e; cases e
    | some s =>
      rw [hi] at e
      cases s with
      | un => cases e
      | xn _ => cases e
      | d y =>
        cases e
        obtain ⟨v', e', r⟩ := S.dat i x hi
        rw [h] at e'
        cases e'
        exact ⟨F, Ex.refl F, S, r⟩
      | own b c =>
        cases b <;> cases e
        obtain ⟨p, o, e', hF, hR, hp, ho⟩ := S.own i _ _ hi
        rw [h] at e'
        cases e'
        obtain ⟨S', r⟩ := S.freezeSlot hi h hF hR hp ho
        exact ⟨_, Ex.new hF, S', r⟩
/-- behind a rule: a value that is data | a new list -/
theorem post_d {x : D} {v : V} (S : Sta K F R σ H env) (p : PostE K W F R σ (.ok (.d x) env) Q) (h : Rel K F v x) : Q v H := p v F H (Ex.refl F) S h
theorem post_new {xs : List D} {vs : List V} {p : Addr} (S : Sta K F R σ H env) (q : PostE K W F R σ (.ok (.own (.lst xs)) env) Q) (hp : H p = none) (h : RelAll K F vs xs) : Q (.ref p) (upd H p (.lst vs)) :=
  q _ F _ (Ex.refl F) (S.freshH hp) ⟨p, _, rfl, S.freeF hp, S.freeR hp, upd_same, ⟨vs, rfl, h⟩, fun i b c' e z => by
    obtain ⟨p', o, e1, _, _, e4, _⟩ := S.own i b c' e
    rw [z] at e1
    cases e1
    rw [hp] at e4
    cases e4⟩
theorem post_tup {xs : List D} {vs : List V} {p : Addr} (S : Sta K F R σ H env) (q : PostE K W F R σ (.ok (.d (.tup xs)) env) Q) (hp : H p = none) (h : RelAll K F vs xs) : Q (.ref p) (upd H p (.tup vs)) :=
  q _ (upd F p (.tup vs)) _ (Ex.new (S.freeF hp)) (S.freshF hp) (.tup (SqT.of upd_same) (h.up (Ex.new (S.freeF hp))))
end
end
end Dw
namespace Dw
noncomputable section
open PySem PySem.Spec PyProof.Rows L2
variable [Glo] [Tabs]
def constE (x : D) : SE := fun env => some (.ok (.d x) env)
def varS (i : Nat) : Option SV → Option RV
  | some (.d x) => some (.d x)
  | some (.own _ _) => some (.cv i)
  | _ => none
def varE (i : Nat) : SE := fun env => (varS i env[i]?).map (Re.ok · env)
section
variable {X : Cx} {W : WX}
theorem pd_var {i : Nat} {e : Expr} (h : PE X e (tVar i)) : PE X e (dE X.K W (varE i)) := by
  refine h.wk fun σ H Q q => ?_
  obtain ⟨env, F, R, S, r, e, p⟩ := of_dE q
  unfold varE at e
  cases hi : env[i]? with
  | none => rw [hi] at e; cases e
  | some s =>
    rw [hi] at e
    cases s with
    | un => cases e
    | xn _ => cases e
    | d x =>
      cases e
      obtain ⟨v, e1, r⟩ := S.dat i x hi
      exact ⟨v, e1, p v F H (Ex.refl F) S r⟩
    | own b c =>
      cases e
      obtain ⟨a, o, e1, _⟩ := S.own i b c hi
      exact ⟨_, e1, p _ F H (Ex.refl F) S e1⟩
theorem pd_c {e : Expr} {v : V} {x : D} (h : PE X e (tC v)) (r : ∀ F, Rel X.K F v x) : PE X e (dE X.K W (constE x)) := by
  refine h.wk fun σ H Q q => ?_
  obtain ⟨env, F, R, S, r', e, p⟩ := of_dE q
  cases e
  exact p v F H (Ex.refl F) S (r F)
theorem pd_int {i j pos} : PE X (.Constant (.int i) j pos) (dE X.K W (constE (.int i))) := pd_c pe_int fun _ => .int i
theorem pd_bl {b j pos} : PE X (.Constant (.bool b) j pos) (dE X.K W (constE (.bl b))) := pd_c pe_bl fun _ => .bl b
theorem pd_non {j pos} : PE X (.Constant .none j pos) (dE X.K W (constE .non)) := pd_c pe_non fun _ => .non
theorem pd_str {x : Str} {j pos} (l : List Nat) (h : x.cps.toList = l) : PE X (.Constant (.str x) j pos) (dE X.K W (constE (.str l))) := by
  refine pd_c pe_str fun F => ?_
  have e : x = mk l := by rw [← h, mk_of]
  rw [e]
  exact .str l
/-- a module's constant -/
theorem pd_glob {x : Str} {v : V} {u : Value} {d : D} {pos : Pos} (hm : X.mg x = some u) (r : RelV v u) (rd : ∀ F, Rel X.K F v d) (hg : Gl X x := by rfl) (hd : (x == ("__debug__" : Str)) = false := by decide) : PE X (.Name x pos) (dE X.K W (constE d)) := pd_c (pe_glob hg hm r hd) rd
end
def op2 (f : D → D → Option RV) (a b : RV) : SE := fun env => (pk a env).bind fun x => (pk b env).bind fun y => (f x y).map (Re.ok · env)
theorem op2_inv {f : D → D → Option RV} {a b : RV} {env : Sl} {r : Re} (h : op2 f a b env = some r) : ∃ x y z, pk a env = some x ∧ pk b env = some y ∧ f x y = some z ∧ r = .ok z env := by
  unfold op2 at h
  rw [Option.bind_eq_some_iff] at h
  obtain ⟨x, h1, h⟩ := h
  rw [Option.bind_eq_some_iff] at h
  obtain ⟨y, h2, h⟩ := h
  rw [Option.map_eq_some_iff] at h
  obtain ⟨z, h3, h⟩ := h
  exact ⟨x, y, z, h1, h2, h3, h.symm⟩
theorem bindE_inv {x : Option Re} {k : RV → SE} {r : Re} (h : bindE x k = some r) : (∃ a env1, x = some (.ok a env1) ∧ k a env1 = some r) ∨ ∃ e env1, x = some (.ex e env1) ∧ r = .ex e env1 := by
  cases x with
  | none => cases h
  | some q =>
    cases q with
    | ok a env1 => exact .inl ⟨a, env1, rfl, h⟩
    | ex e env1 => exact .inr ⟨e, env1, rfl, (Option.some.inj h).symm⟩
def Snd2 (K : PySem.W.Frag) (f : D → D → Option RV) (r : R2) : Prop := ∀ {W : WX} {F : Hp} {R : Fm} {σ : L2.St} {H : Hp} {env : Sl} {Q : VK} {x y : D} {v w : V} {z : RV},
  Sta K F R σ H env → Vw K F H v x → Vw K F H w y → f x y = some z → PostE K W F R σ (.ok z env) Q → r v w H Q
theorem op2_snd {K : PySem.W.Frag} {W : WX} {f : D → D → Option RV} {r : R2} (hs : Snd2 K f r) {a b : RV} {env : Sl} {F : Hp} {R : Fm} {σ : L2.St} {v w : V} {H : Hp} {Q : VK} (S : Sta K F R σ H env) (h1 : RvOk K F R σ H env v a) (h2 : RvOk K F R σ H env w b)
    (h : atE K W (op2 f a b) F R σ env Q) : r v w H Q := by
  obtain ⟨r', e, p⟩ := h
  obtain ⟨x, y, z, ha, hb, hf, rfl⟩ := op2_inv e
  exact hs S (pk_vw S h1 ha) (pk_vw S h2 hb) hf p
section
variable {X : Cx} {W : WX} {a b : Expr} {fa fb : SE} {pos : Pos}
theorem pd_op {op : Operator} {r : R2} {f : D → D → Option RV} (ho : OpR X (binaryOp op) r) (hs : Snd2 X.K f r) (ha : PE X a (dE X.K W fa)) (hb : PE X b (dE X.K W fb)) : PE X (.BinOp a op b pos) (dE X.K W (two (op2 f) fa fb)) :=
  (pe_op ho ha hb).wk fun σ H Q q => dE_two q fun _ _ _ _ _ _ _ _ S h1 h2 h => op2_snd hs S h1 h2 h
theorem pd_cmp {op : CmpOp} {r : R2} {f : D → D → Option RV} (ho : OpR X (compareOp op) r) (hs : Snd2 X.K f r) (hm : behindInMarks op b = false) (ha : PE X a (dE X.K W fa)) (hb : PE X b (dE X.K W fb)) : PE X (.Compare a [op] [b] pos) (dE X.K W (two (op2 f) fa fb)) :=
  (pe_cmpR ho ha hb hm).wk fun σ H Q q => dE_two q fun _ _ _ _ _ _ _ _ S h1 h2 h => op2_snd hs S h1 h2 h
end
def rOr (r r' : R2) : R2 := fun x y H Q => r x y H Q ∨ r' x y H Q
/-- a list that stands in H or in the written part -/
def rCatR (K : PySem.W.Frag) : R2 := fun x y H Q => ∃ l b xs zs, x = .ref l ∧ y = .ref b ∧ SqL K H l xs ∧ SqL K H b zs ∧ xs.length + zs.length ≤ sizeLine ∧ ∀ p, H p = none → Q (.ref p) (upd H p (.lst (xs ++ zs)))
theorem op_catR {X : Cx} : OpR X (binaryOp .Add) (rCatR X.K) := by
  intro pins s σ H x y v u Q I rx ry h
  obtain ⟨l, b, xs, zs, rfl, rfl, hH, hB, hz, q⟩ := h
  cases rx
  cases ry
  obtain ⟨its, r, p1, z1⟩ := I.list hH
  obtain ⟨its2, r2, p2, z2⟩ := I.list hB
  obtain ⟨⟨cls, dd, data, sl⟩, ho, hc, n, hd⟩ := id p1.isList
  obtain ⟨⟨cls2, dd2, data2, sl2⟩, ho2, hc2, n2, hd2⟩ := id p2.isList
  simp only at hc hd hc2 hd2
  subst hc hd hc2 hd2
  have e1 := r.length
  have e2 := r2.length
  refine concat_meets ⟨_, ho, rfl⟩ ⟨_, ho2, rfl⟩ PySem.noFill_list_add PySem.seq_list_add PySem.F.slot_list_add PySem.F.entry_list_add (PySem.F.args_list_add_2 _ _) (PyProof.Rows.list_addW l b its.toArray its2.toArray n n2 dd dd2 sl sl2 (by rw [List.size_toArray, List.size_toArray]; omega)) ⟨ho, ho2, ?_⟩
  have ea : its.toArray ++ its2.toArray = (its ++ its2).toArray := by simp
  rw [ea]
  exact ⟨.ref _, _, I.lnew (t' := s.toks) (r.append r2) (by rw [List.length_append]; omega), rfl, q _ I.fresh⟩
def addD : D → D → Option RV
  | .int i, .int j => some (.d (.int (i + j)))
  | .str x, .str y => if x.length + y.length ≤ sizeLine then some (.d (.str (x ++ y))) else none
  | .lst xs, .lst ys => if xs.length + ys.length ≤ sizeLine then some (.own (.lst (xs ++ ys))) else none
  | .tup xs, .tup ys => if xs.length + ys.length ≤ sizeLine then some (.d (.tup (xs ++ ys))) else none
  | _, _ => none
def rAddI : R2 := rI0 fun i j => .int (i + j)
def rAddT : R2 := fun x y H Q => ∃ i j, x = .str i ∧ y = .str j ∧ i.length + j.length ≤ sizeLine ∧ Q (.str (i ++ j)) H
def rAddAny (K : PySem.W.Frag) : R2 := rOr rAddI (rOr rAddT (rOr (rCatR K) (rCatA K)))
theorem op_addAny {X : Cx} : OpR X (binaryOp .Add) (rAddAny X.K) := OpR.or op_add (OpR.or op_add_str (OpR.or op_catR op_catA))
theorem some_if {α : Type} {c : Prop} [Decidable c] {x y : α} (h : (if c then some x else none) = some y) : c ∧ x = y := by
  by_cases hc : c
  · rw [if_pos hc] at h
    exact ⟨hc, Option.some.inj h⟩
  · rw [if_neg hc] at h
    cases h
theorem snd_add {K : PySem.W.Frag} : Snd2 K addD (rAddAny K) := by
  intro W F R σ H env Q x y v w z S hx hy e p
  cases x <;> cases y <;> first | (cases e; done) | skip
  · cases hx; cases hy; cases e
    exact .inl ⟨_, _, rfl, rfl, post_d S p (.int _)⟩
  · rename_i x y
    cases hx; cases hy
    obtain ⟨c, rfl⟩ := some_if e
    refine .inr (.inl ⟨_, _, rfl, rfl, by rw [mk_len, mk_len]; exact c, ?_⟩)
    rw [mk_app]
    exact post_d S p (.str _)
  · rename_i xs ys
    obtain ⟨a, vs, rfl, ha, ra⟩ := hx
    obtain ⟨b, ws, rfl, hb, rb⟩ := hy
    obtain ⟨c, rfl⟩ := some_if e
    exact .inr (.inr (.inl ⟨_, _, _, _, rfl, rfl, ha, hb, by rw [ra.len, rb.len]; exact c, fun q hq => post_new S p hq (ra.app rb)⟩))
  · rename_i xs ys
    cases hx with
    | tup sx rx =>
      cases hy with
      | tup sy ry =>
        obtain ⟨c, rfl⟩ := some_if e
        refine .inr (.inr (.inr ⟨_, _, _, _, rfl, rfl, ex_t S.sub sx, ex_t S.sub sy, by rw [rx.len, ry.len]; exact c, fun h0 => ?_, fun h0 h1 => ?_, fun h0 h1 q hq => post_tup S p hq (rx.app ry)⟩))
        · subst h0
          have e0 : xs = [] := List.eq_nil_of_length_eq_zero (by rw [← rx.len]; rfl)
          subst e0
          exact post_d S p (.tup sy ry)
        · subst h1
          have e0 : ys = [] := List.eq_nil_of_length_eq_zero (by rw [← ry.len]; rfl)
          subst e0
          rw [List.append_nil] at p
          exact post_d S p (.tup sx rx)
def intD (g : Int → Int → Option Int) : D → D → Option RV
  | .int i, .int j => (g i j).map fun k => .d (.int k)
  | _, _ => none
theorem snd_int {K : PySem.W.Frag} {c : Int → Int → Prop} {g : Int → Int → Int} {f : Int → Int → Option Int} (h : ∀ i j k, f i j = some k → c i j ∧ k = g i j) : Snd2 K (intD f) (rI c fun i j => .int (g i j)) := by
  intro W F R σ H env Q x y v w z S hx hy e p
  cases x <;> cases y <;> first | (cases e; done) | skip
  rename_i i j
  cases hx; cases hy
  cases hf : f i j with
  | none => simp [intD, hf] at e
  | some k =>
    simp only [intD, hf, Option.map_some, Option.some.injEq] at e
    subst e
    obtain ⟨h1, rfl⟩ := h i j k hf
    exact ⟨i, j, rfl, rfl, h1, post_d S p (.int _)⟩
def subD : D → D → Option RV := intD fun i j => some (i - j)
theorem snd_sub {K : PySem.W.Frag} : Snd2 K subD (rI0 fun i j => .int (i - j)) := by
  intro W F R σ H env Q x y v w z S hx hy e p
  obtain ⟨i, j, a, b, _, q⟩ := snd_int (K := K) (c := fun _ _ => True) (g := fun i j => i - j) (f := fun i j => some (i - j)) (fun i j k h => ⟨trivial, (Option.some.inj h).symm⟩) S hx hy e p
  exact ⟨i, j, a, b, q⟩
def big64 (i : Int) : Bool := okP (-(2 ^ 64) < i ∧ i < 2 ^ 64)
def mulI (i j : Int) : Option Int := if big64 i || big64 j then some (i * j) else none
def fdivI (i j : Int) : Option Int := if okP (0 < j ∧ j < 1073741824) then some (i / j) else none
def modI (i j : Int) : Option Int := if okP (0 < j) then some (i % j) else none
def powI (i j : Int) : Option Int := if okP ((0 ≤ j ∧ j ≤ 1000) ∧ i.natAbs < 1000) then some (i ^ j.toNat) else none
/-- a text times a number -/
def mulD : D → D → Option RV
  | .int i, .int j => (mulI i j).map fun k => .d (.int k)
  | .str x, .int n => if x.length ≤ 1000 ∧ n ≤ 1000 ∧ -1000 ≤ n then some (.d (.str (List.replicate n.toNat x).flatten)) else none
  | _, _ => none
def fdivD : D → D → Option RV := intD fdivI
def modD : D → D → Option RV := intD modI
def powD : D → D → Option RV := intD powI
def rMulS : R2 := fun x y H Q => ∃ l n, x = .str (mk l) ∧ y = .int n ∧ (l.length ≤ 1000 ∧ n ≤ 1000 ∧ -1000 ≤ n) ∧ Q (.str (mk (List.replicate n.toNat l).flatten)) H
theorem mul_mk {l : List Nat} {n : Int} : Txt.mul (mk l) n = mk (List.replicate n.toNat l).flatten := by
  have fold : ∀ (k : Nat) (acc : List Nat), (List.replicate k l.toArray).foldl (· ++ ·) acc.toArray = (acc ++ (List.replicate k l).flatten).toArray := by
    intro k
    induction k with
    | zero => intro acc; simp
    | succ k ih =>
      intro acc
      rw [List.replicate_succ, List.foldl_cons, List.replicate_succ, List.flatten_cons]
      rw [show acc.toArray ++ l.toArray = (acc ++ l).toArray by simp, ih, List.append_assoc]
  unfold Txt.mul
  by_cases h : n < 1
  · rw [if_pos h]
    have : n.toNat = 0 := by omega
    rw [this]
    rfl
  · rw [if_neg h]
    by_cases h2 : (n == 1 || (mk l).length == 0) = true
    · rw [if_pos h2]
      rw [Bool.or_eq_true] at h2
      rcases h2 with h2 | h2
      · have : n = 1 := by simpa using h2
        subst this
        simp [mk]
      · have : l = [] := by
          rw [mk_len] at h2
          exact List.eq_nil_of_length_eq_zero (by simpa using h2)
        subst this
        have : (List.replicate n.toNat ([] : List Nat)).flatten = [] := by simp
        rw [this]
    · rw [if_neg h2]
      have := fold n.toNat []
      simp only [mk]
      rw [show (#[] : Array Nat) = ([] : List Nat).toArray from rfl, this, List.nil_append]
theorem op_mulS {X : Cx} : OpR X (binaryOp .Mult) rMulS := by
  intro pins s σ H x y v u Q I rx ry h
  obtain ⟨l, n, rfl, rfl, ⟨h1, h2, h3⟩, q⟩ := h
  obtain ⟨t, rfl⟩ := rx
  obtain ⟨t', rfl⟩ := ry
  refine SB.mul ⟨?_, fun _ _ => ?_, fun _ _ => ?_⟩ fun t2 k => ⟨.str (Txt.mul (mk l) n), H, I.tok _, ⟨_, rfl⟩, by rw [mul_mk]; exact q⟩
  · have a : ¬ n < -(2 ^ 63 : Int) := by omega
    have b : ¬ n ≥ (2 ^ 63 : Int) := by omega
    rw [decide_eq_false a, decide_eq_false b]; rfl
  · rw [mk_len]
    have hn : 1 ≤ n := by omega
    have : (1000 : Int) ≤ (2 ^ 63 - 1) / n := by
      rw [Int.le_ediv_iff_mul_le (by omega)]
      omega
    omega
  · rw [mk_len]
    have z : l.length * n.toNat ≤ 1000 * 1000 := Nat.mul_le_mul h1 (by omega)
    unfold Builtin.Str.tooLong
    refine decide_eq_false ?_
    have : (1000 * 1000 : Nat) ≤ sizeLine := by decide
    omega
def rMulAny : R2 := rOr (rI CMul fun i j => .int (i * j)) rMulS
theorem op_mulAny {X : Cx} : OpR X (binaryOp .Mult) rMulAny := OpR.or op_mul op_mulS
theorem snd_mul {K : PySem.W.Frag} : Snd2 K mulD rMulAny := by
  intro W F R σ H env Q x y v w z S hx hy e p
  cases x <;> cases y <;> first | (cases e; done) | skip
  · rename_i i j
    refine .inl (snd_int (f := mulI) (fun i j k h => ?_) S hx hy (show intD mulI (.int i) (.int j) = some z from e) p)
    unfold mulI at h
    obtain ⟨c, e⟩ := some_if h
    refine ⟨?_, e.symm⟩
    rw [Bool.or_eq_true] at c
    unfold big64 at c
    rcases c with c | c
    · exact .inl (by simpa using okP_iff.mp c)
    · exact .inr (by simpa using okP_iff.mp c)
  · rename_i l n
    cases hx; cases hy
    obtain ⟨c, rfl⟩ := some_if e
    exact .inr ⟨l, n, rfl, rfl, c, post_d S p (.str _)⟩
theorem snd_fdiv {K : PySem.W.Frag} : Snd2 K fdivD (rI CDiv fun i j => .int (i / j)) := snd_int (f := fdivI) fun i j k h => by
  unfold fdivI at h
  obtain ⟨c, e⟩ := some_if h
  exact ⟨by simpa [CDiv] using okP_iff.mp c, e.symm⟩
theorem snd_mod {K : PySem.W.Frag} : Snd2 K modD (rI (fun _ j => 0 < j) fun i j => .int (i % j)) := snd_int (f := modI) fun i j k h => by
  unfold modI at h
  obtain ⟨c, e⟩ := some_if h
  exact ⟨okP_iff.mp c, e.symm⟩
theorem snd_pow {K : PySem.W.Frag} : Snd2 K powD (rI CPow fun i j => .int (i ^ j.toNat)) := snd_int (f := powI) fun i j k h => by
  unfold powI at h
  obtain ⟨c, e⟩ := some_if h
  refine ⟨?_, e.symm⟩
  rw [okP_iff] at c
  exact ⟨c.1.1, by omega, by have := c.2; omega⟩
section
variable {X : Cx} {W : WX} {a b : Expr} {fa fb : SE} {pos : Pos}
theorem pd_add (ha : PE X a (dE X.K W fa)) (hb : PE X b (dE X.K W fb)) : PE X (.BinOp a .Add b pos) (dE X.K W (two (op2 addD) fa fb)) := pd_op op_addAny snd_add ha hb
theorem pd_sub (ha : PE X a (dE X.K W fa)) (hb : PE X b (dE X.K W fb)) : PE X (.BinOp a .Sub b pos) (dE X.K W (two (op2 subD) fa fb)) := pd_op op_sub snd_sub ha hb
theorem pd_mul (ha : PE X a (dE X.K W fa)) (hb : PE X b (dE X.K W fb)) : PE X (.BinOp a .Mult b pos) (dE X.K W (two (op2 mulD) fa fb)) := pd_op op_mulAny snd_mul ha hb
theorem pd_fdiv (ha : PE X a (dE X.K W fa)) (hb : PE X b (dE X.K W fb)) : PE X (.BinOp a .FloorDiv b pos) (dE X.K W (two (op2 fdivD) fa fb)) := pd_op op_fdiv snd_fdiv ha hb
theorem pd_mod (ha : PE X a (dE X.K W fa)) (hb : PE X b (dE X.K W fb)) : PE X (.BinOp a .Mod b pos) (dE X.K W (two (op2 modD) fa fb)) := pd_op op_mod snd_mod ha hb
theorem pd_pow (ha : PE X a (dE X.K W fa)) (hb : PE X b (dE X.K W fb)) : PE X (.BinOp a .Pow b pos) (dE X.K W (two (op2 powD) fa fb)) := pd_op op_pow snd_pow ha hb
end
end
end Dw
namespace Dw
noncomputable section
open PySem PySem.Spec PyProof.Rows L2
variable [Glo] [Tabs]
mutual
def py : D → PyData
  | .non => .none
  | .bl b => .bool b
  | .int i => .int i
  | .str x => .str (mk x)
  | .lst xs => .list (pys xs)
  | .tup xs => .tuple (pys xs)
  | .dct _ _ => .dict []
  | .dcu _ _ => .dict []
  | .ins _ _ _ => .dict []
def pys : List D → List PyData
  | [] => []
  | x :: xs => py x :: pys xs
end
mutual
def eqB : D → D → Bool
  | .non, .non => true
  | .bl a, .bl b => a == b
  | .bl a, .int j => (if a then 1 else 0) == j
  | .int i, .bl b => i == (if b then 1 else 0)
  | .int i, .int j => i == j
  | .str x, .str y => x == y
  | .lst xs, .lst ys => eqBs xs ys
  | .tup xs, .tup ys => eqBs xs ys
  | _, _ => false
def eqBs : List D → List D → Bool
  | [], [] => true
  | x :: xs, y :: ys => eqB x y && eqBs xs ys
  | _, _ => false
end
theorem mk_beq (x y : List Nat) : (mk x == mk y) = (x == y) := by
  by_cases h : x = y
  · subst h
    rw [beq_self_eq_true, beq_self_eq_true]
  · have : mk x ≠ mk y := fun z => h (mk_inj z)
    rw [beq_eq_false_iff_ne.mpr this, beq_eq_false_iff_ne.mpr h]
mutual
theorem eqv_py : ∀ x y : D, PyData.eqv (py x) (py y) = eqB x y
  | .non, y => by cases y <;> rfl
  | .bl a, y => by cases y <;> rfl
  | .int a, y => by cases y <;> rfl
  | .str a, y => by
    cases y with
    | str b => exact mk_beq a b
    | _ => rfl
  | .lst xs, y => by
    cases y with
    | lst ys => exact eqv_pys xs ys
    | _ => rfl
  | .tup xs, y => by
    cases y with
    | tup ys => exact eqv_pys xs ys
    | _ => rfl
  | .dct _ _, y => by cases y <;> rfl
  | .dcu _ _, y => by cases y <;> rfl
  | .ins _ _ _, y => by cases y <;> rfl
theorem eqv_pys : ∀ xs ys : List D, PyData.eqvAll (pys xs) (pys ys) = eqBs xs ys
  | [], [] => rfl
  | [], _ :: _ => rfl
  | _ :: _, [] => rfl
  | x :: xs, y :: ys => by
    show (PyData.eqv (py x) (py y) && PyData.eqvAll (pys xs) (pys ys)) = (eqB x y && eqBs xs ys)
    rw [eqv_py x y, eqv_pys xs ys]
end
mutual
def dpl : D → Bool
  | .non => true
  | .bl _ => true
  | .int _ => true
  | .str _ => true
  | .lst xs => dpls xs
  | .tup xs => dpls xs
  | .dct _ _ => false
  | .dcu _ _ => false
  | .ins _ _ _ => false
def dpls : List D → Bool
  | [] => true
  | x :: xs => dpl x && dpls xs
end
mutual
theorem dpl_of : ∀ x : D, (py x).canLay0 = true → dpl x = true
  | .non, _ => rfl
  | .bl _, _ => rfl
  | .int _, _ => rfl
  | .str _, _ => rfl
  | .lst xs, h => dpls_of xs (by simpa [py, PyData.canLay0] using h)
  | .tup xs, h => dpls_of xs (by simpa [py, PyData.canLay0] using h)
  | .dct _ _, h => by simp [py, PyData.canLay0] at h
  | .dcu _ _, h => by simp [py, PyData.canLay0] at h
  | .ins _ _ _, h => by simp [py, PyData.canLay0] at h
theorem dpls_of : ∀ xs : List D, PyData.canLayAll0 (pys xs) = true → dpls xs = true
  | [], _ => rfl
  | x :: xs, h => by
    have h : (py x).canLay0 = true ∧ PyData.canLayAll0 (pys xs) = true := by simpa [pys, PyData.canLayAll0] using h
    show (dpl x && dpls xs) = true
    rw [dpl_of x h.1, dpls_of xs h.2]
    rfl
end
section
variable {K : PySem.W.Frag} {H : Hp}
mutual
theorem Rel.dp : ∀ {v : V} (x : D), dpl x = true → Rel K H v x → Dp K H v (py x)
  | _, .non, _, h => by cases h; exact .non
  | _, .bl _, _, h => by cases h; exact .bl _
  | _, .int _, _, h => by cases h; exact .int _
  | _, .str _, _, h => by cases h; exact .str _
  | _, .lst xs, p, h => by
    cases h with
    | lst s r => exact .lst s (RelAll.dp xs p r)
  | _, .tup xs, p, h => by
    cases h with
    | tup s r => exact .tup s (RelAll.dp xs p r)
  | _, .dct _ _, p, _ => by cases p
  | _, .dcu _ _, p, _ => by cases p
  | _, .ins _ _ _, p, _ => by cases p
theorem RelAll.dp : ∀ {vs : List V} (xs : List D), dpls xs = true → RelAll K H vs xs → DpAll K H vs (pys xs)
  | _, [], _, h => by cases h; exact .nil
  | _, x :: xs, p, h => by
    have p : (dpl x && dpls xs) = true := p
    rw [Bool.and_eq_true] at p
    cases h with
    | cons a b => exact .cons (Rel.dp x p.1 a) (RelAll.dp xs p.2 b)
end
end
/-- data that == may look at: signs below 0x110000, at most 64 deep -/
def shp (x : D) : Bool := SeqAt.shaped (py x)
theorem shp_pl {x : D} (h : shp x = true) : dpl x = true := dpl_of x (SeqAt.canLay_of_shaped h)
/-- flat things need no look -/
def flatD : D → Bool
  | .lst _ => false
  | .tup _ => false
  | .dct _ _ => false
  | .dcu _ _ => false
  | .ins _ _ _ => false
  | _ => true
/-- the pairs that == tells apart at once -/
def scalD : D → D → Bool
  | .non, .non => true | .non, .int _ => true | .int _, .non => true | .non, .bl _ => true | .bl _, .non => true | .non, .str _ => true | .str _, .non => true
  | .int _, .int _ => true | .bl _, .bl _ => true | .str _, .str _ => true
  | .int _, .str _ => true | .str _, .int _ => true | .bl _, .str _ => true | .str _, .bl _ => true
  | _, _ => false
def eqD (x y : D) : Option RV := if scalD x y || (shp x && shp y) then some (.d (.bl (eqB x y))) else none
def neD (x y : D) : Option RV := if scalD x y || (shp x && shp y) then some (.d (.bl (!eqB x y))) else none
def rEqAny (K : PySem.W.Frag) : R2 := rOr rEq (rEqD K)
def rNeAny (K : PySem.W.Frag) : R2 := rOr rNe (rNeD K)
theorem scal_of {K : PySem.W.Frag} {F H : Hp} {v w : V} {x y : D} (hx : Vw K F H v x) (hy : Vw K F H w y) (h : scalD x y = true) : scal v w = true ∧ decide (v = w) = eqB x y := by
  have dstr : ∀ a b : List Nat, decide (V.str (mk a) = V.str (mk b)) = (a == b) := fun a b => by rw [dec_str, mk_beq]
  cases x <;> cases y <;> first | (cases h; done) | skip
  all_goals (cases hx; cases hy; refine ⟨rfl, ?_⟩)
  all_goals first | rfl | (exact dec_int) | (exact dec_bl) | (exact dstr _ _) | (simp [eqB]; done)
theorem snd_eq {K : PySem.W.Frag} : Snd2 K eqD (rEqAny K) := by
  intro W F R σ H env Q x y v w z S hx hy e p
  obtain ⟨c, rfl⟩ := some_if e
  by_cases h : scalD x y = true
  · obtain ⟨a, b⟩ := scal_of hx hy h
    refine .inl ⟨a, ?_⟩
    rw [b]
    exact post_d S p (.bl _)
  · rw [Bool.or_eq_true, Bool.and_eq_true] at c
    rcases c with c | c
    · exact absurd c h
    · refine .inr ⟨py x, py y, (hx.rel S.sub).dp _ (shp_pl c.1), (hy.rel S.sub).dp _ (shp_pl c.2), c.1, c.2, ?_⟩
      rw [eqv_py]
      exact post_d S p (.bl _)
theorem snd_ne {K : PySem.W.Frag} : Snd2 K neD (rNeAny K) := by
  intro W F R σ H env Q x y v w z S hx hy e p
  obtain ⟨c, rfl⟩ := some_if e
  by_cases h : scalD x y = true
  · obtain ⟨a, b⟩ := scal_of hx hy h
    refine .inl ⟨a, ?_⟩
    rw [b]
    exact post_d S p (.bl _)
  · rw [Bool.or_eq_true, Bool.and_eq_true] at c
    rcases c with c | c
    · exact absurd c h
    · refine .inr ⟨py x, py y, (hx.rel S.sub).dp _ (shp_pl c.1), (hy.rel S.sub).dp _ (shp_pl c.2), c.1, c.2, ?_⟩
      rw [eqv_py]
      exact post_d S p (.bl _)
def ltD : D → D → Option RV
  | .int i, .int j => some (.d (.bl (decide (i < j))))
  | .str x, .str y => some (.d (.bl (decide (x < y))))
  | _, _ => none
def leD : D → D → Option RV
  | .int i, .int j => some (.d (.bl (decide (i ≤ j))))
  | .str x, .str y => some (.d (.bl (!decide (y < x))))
  | _, _ => none
def gtD : D → D → Option RV
  | .int i, .int j => some (.d (.bl (decide (j < i))))
  | _, _ => none
def geD : D → D → Option RV
  | .int i, .int j => some (.d (.bl (decide (j ≤ i))))
  | _, _ => none
theorem snd_cmpI {K : PySem.W.Frag} {g : Int → Int → Bool} {f : D → D → Option RV} (h : ∀ x y z, f x y = some z → ∃ i j, x = .int i ∧ y = .int j ∧ z = .d (.bl (g i j))) : Snd2 K f (rI0 fun i j => .bl (g i j)) := by
  intro W F R σ H env Q x y v w z S hx hy e p
  obtain ⟨i, j, rfl, rfl, rfl⟩ := h x y z e
  cases hx; cases hy
  exact ⟨i, j, rfl, rfl, post_d S p (.bl _)⟩
def rLtS : R2 := fun x y H Q => ∃ i j, x = .str i ∧ y = .str j ∧ Q (.bl (decide (i.cps.toList < j.cps.toList))) H
theorem snd_gt {K : PySem.W.Frag} : Snd2 K gtD (rI0 fun i j => .bl (decide (j < i))) := snd_cmpI fun x y z h => by
  cases x <;> cases y <;> first | (cases h; done) | skip
  cases h
  exact ⟨_, _, rfl, rfl, rfl⟩
theorem snd_ge {K : PySem.W.Frag} : Snd2 K geD (rI0 fun i j => .bl (decide (j ≤ i))) := snd_cmpI fun x y z h => by
  cases x <;> cases y <;> first | (cases h; done) | skip
  cases h
  exact ⟨_, _, rfl, rfl, rfl⟩
def rLtAny : R2 := rOr (rI0 fun i j => .bl (decide (i < j))) rLtS
theorem snd_lt {K : PySem.W.Frag} : Snd2 K ltD rLtAny := by
  intro W F R σ H env Q x y v w z S hx hy e p
  cases x <;> cases y <;> first | (cases e; done) | skip
  · cases hx; cases hy; cases e
    exact .inl ⟨_, _, rfl, rfl, post_d S p (.bl _)⟩
  · cases hx; cases hy; cases e
    exact .inr ⟨_, _, rfl, rfl, post_d S p (.bl _)⟩
def isNon : D → Bool
  | .non => true
  | _ => false
def isD : D → D → Option RV
  | x, .non => some (.d (.bl (isNon x)))
  | .bl a, .bl b => some (.d (.bl (a == b)))
  | _, _ => none
def isNotD (x y : D) : Option RV := match isD x y with
  | some (.d (.bl b)) => some (.d (.bl (!b)))
  | _ => none
def rIsAny : R2 := rOr rIsN rIsB
def rIsNotAny : R2 := rOr rNotN rNotB
theorem isN_of {K : PySem.W.Frag} {F H : Hp} {v : V} {x : D} (h : Vw K F H v x) : decide (v = .non) = (isNon x) := by
  cases x with
  | lst xs => obtain ⟨p, vs, rfl, _⟩ := h; rfl
  | dct ks vs => obtain ⟨p, es, rfl, _⟩ := h; rfl
  | dcu ks vs => obtain ⟨p, es, us, rfl, _⟩ := h; rfl
  | ins c ns xs => obtain ⟨p, C, dx, fs, rfl, _⟩ := h; rfl
  | _ => cases h; rfl
theorem snd_is {K : PySem.W.Frag} : Snd2 K isD rIsAny := by
  intro W F R σ H env Q x y v w z S hx hy e p
  cases y with
  | non =>
    cases hy
    have e' : z = .d (.bl (isNon x)) := by cases x <;> exact (Option.some.inj e).symm
    subst e'
    refine .inl ⟨rfl, ?_⟩
    rw [isN_of hx]
    exact post_d S p (.bl _)
  | bl b =>
    cases x with
    | bl a =>
      cases hx; cases hy; cases e
      refine .inr ⟨a, b, rfl, rfl, ?_⟩
      rw [show decide (a = b) = (a == b) by cases a <;> cases b <;> rfl]
      exact post_d S p (.bl _)
    | _ => cases e
  | _ => cases x <;> cases e
theorem snd_isNot {K : PySem.W.Frag} : Snd2 K isNotD rIsNotAny := by
  intro W F R σ H env Q x y v w z S hx hy e p
  cases y with
  | non =>
    cases hy
    have e' : z = .d (.bl (!(isNon x))) := by cases x <;> exact (Option.some.inj e).symm
    subst e'
    refine .inl ⟨rfl, ?_⟩
    rw [isN_of hx]
    exact post_d S p (.bl _)
  | bl b =>
    cases x with
    | bl a =>
      cases hx; cases hy; cases e
      refine .inr ⟨a, b, rfl, rfl, ?_⟩
      rw [show (!decide (a = b)) = (!(a == b)) by cases a <;> cases b <;> rfl]
      exact post_d S p (.bl _)
    | _ => cases e
  | _ => cases x <;> cases e
def toV : D → V
  | .non => .non
  | .bl b => .bl b
  | .int i => .int i
  | .str x => .str (mk x)
  | _ => .non
def inB (x : D) (ys : List D) : Bool := ys.any fun y => eqB y x
def inD (x y : D) : Option RV := match y with
  | .str s => match x with
    | .str [c] => some (.d (.bl (decide (c ∈ s))))
    | _ => none
  | .tup ys => if flatD x && ys.all flatD then some (.d (.bl (inB x ys))) else none
  | .lst ys => if (flatD x && ys.all flatD) || (shp x && shp (.lst ys)) then some (.d (.bl (inB x ys))) else none
  | _ => none
def notInD (x y : D) : Option RV := match inD x y with
  | some (.d (.bl b)) => some (.d (.bl (!b)))
  | _ => none
theorem flat_toV {K : PySem.W.Frag} {F : Hp} {v : V} {x : D} (h : Rel K F v x) (f : flatD x = true) : v = toV x ∧ flatV v = true := by
  cases x with
  | lst xs => cases f
  | tup xs => cases f
  | dct ks vs => cases f
  | dcu ks vs => cases f
  | ins c ns xs => cases f
  | _ => cases h; exact ⟨rfl, rfl⟩
theorem flat_all {K : PySem.W.Frag} {F : Hp} : ∀ {vs : List V} {xs : List D}, RelAll K F vs xs → xs.all flatD = true → vs = xs.map toV ∧ vs.all flatV = true
  | _, [], h, _ => by cases h; exact ⟨rfl, rfl⟩
  | _, x :: xs, h, f => by
    cases h with
    | cons a b =>
      rw [List.all_cons, Bool.and_eq_true] at f
      obtain ⟨e1, e2⟩ := flat_toV a f.1
      obtain ⟨e3, e4⟩ := flat_all b f.2
      exact ⟨by rw [List.map_cons, ← e1, ← e3], by rw [List.all_cons, e2, e4]; rfl⟩
theorem eqV_toV {x y : D} (fx : flatD x = true) (fy : flatD y = true) : eqV (toV x) (toV y) = eqB x y := by
  cases x <;> cases y <;> first | (cases fx; done) | (cases fy; done) | rfl | skip
  exact mk_beq _ _
theorem inV_toV {x : D} (fx : flatD x = true) : ∀ (ys : List D), ys.all flatD = true → inV (toV x) (ys.map toV) = inB x ys
  | [], _ => rfl
  | y :: ys, f => by
    rw [List.all_cons, Bool.and_eq_true] at f
    have := inV_toV fx ys f.2
    unfold inV inB at this ⊢
    rw [List.map_cons, List.any_cons, List.any_cons, eqV_toV f.1 fx, this]
theorem any_py (x : D) : ∀ ys : List D, ((pys ys).any fun z => PyData.eqv z (py x)) = inB x ys
  | [] => rfl
  | y :: ys => by
    have := any_py x ys
    unfold inB at this ⊢
    show ((PyData.eqv (py y) (py x)) || (pys ys).any fun z => PyData.eqv z (py x)) = _
    rw [this, eqv_py, List.any_cons]
theorem Vw.flat {K : PySem.W.Frag} {F H : Hp} {v : V} {x : D} (h : Vw K F H v x) (f : flatD x = true) : v = toV x ∧ flatV v = true := by
  cases x with
  | lst xs => cases f
  | tup xs => cases f
  | dct ks vs => cases f
  | dcu ks vs => cases f
  | ins c ns xs => cases f
  | _ => cases h; exact ⟨rfl, rfl⟩
def rInSgn : R2 := fun x y H Q => ∃ (c : Nat) (z : Str), x = .str ⟨#[c]⟩ ∧ y = .str z ∧ Q (.bl (decide (c ∈ z.cps.toList))) H
def rNiSgn : R2 := fun x y H Q => ∃ (c : Nat) (z : Str), x = .str ⟨#[c]⟩ ∧ y = .str z ∧ Q (.bl (!decide (c ∈ z.cps.toList))) H
def rInAny (K : PySem.W.Frag) : R2 := rOr rInSgn (rOr (rIn K false) (rInD K))
def rNiAny (K : PySem.W.Frag) : R2 := rOr rNiSgn (rOr (rIn K true) (rNotInD K))
theorem in_cases {K : PySem.W.Frag} {F H : Hp} {x y : D} {v w : V} {b : Bool} (e : Ex F H) (hx : Vw K F H v x) (hy : Vw K F H w y) (h : inD x y = some (.d (.bl b))) :
    (∃ (c : Nat) (z : Str), v = .str ⟨#[c]⟩ ∧ w = .str z ∧ b = decide (c ∈ z.cps.toList)) ∨ (∃ p xs, w = .ref p ∧ (SqL K H p xs ∨ SqT K H p xs) ∧ flatV v = true ∧ xs.all flatV = true ∧ b = inV v xs) ∨
    ∃ d ds, Dp K H v d ∧ Dp K H w (.list ds) ∧ SeqAt.shaped d = true ∧ SeqAt.shaped (.list ds) = true ∧ b = ds.any fun z => PyData.eqv z d := by
  cases y with
  | str s =>
    cases x with
    | str t =>
      match t, h, hx with
      | [c], h, hx =>
        cases hx; cases hy; cases h
        exact .inl ⟨c, mk s, rfl, rfl, rfl⟩
      | [], h, _ => cases h
      | _ :: _ :: _, h, _ => cases h
    | _ => cases h
  | tup ys =>
    obtain ⟨c, e1⟩ := some_if (show (if flatD x && ys.all flatD then some (RV.d (.bl (inB x ys))) else none) = _ from h)
    rw [Bool.and_eq_true] at c
    cases hy with
    | tup s r =>
      obtain ⟨a1, a2⟩ := hx.flat c.1
      obtain ⟨b1, b2⟩ := flat_all r c.2
      cases e1
      exact .inr (.inl ⟨_, _, rfl, .inr (ex_t e s), a2, b2, by rw [a1, b1, inV_toV c.1 ys c.2]⟩)
  | lst ys =>
    obtain ⟨c, e1⟩ := some_if (show (if (flatD x && ys.all flatD) || (shp x && shp (.lst ys)) then some (RV.d (.bl (inB x ys))) else none) = _ from h)
    cases e1
    rw [Bool.or_eq_true, Bool.and_eq_true, Bool.and_eq_true] at c
    rcases c with c | c
    · obtain ⟨p, vs, rfl, s, r⟩ := hy
      obtain ⟨a1, a2⟩ := hx.flat c.1
      obtain ⟨b1, b2⟩ := flat_all r c.2
      exact .inr (.inl ⟨_, _, rfl, .inl s, a2, b2, by rw [a1, b1, inV_toV c.1 ys c.2]⟩)
    · exact .inr (.inr ⟨py x, pys ys, (hx.rel e).dp _ (shp_pl c.1), (hy.rel e).dp _ (shp_pl c.2), c.1, c.2, (any_py x ys).symm⟩)
  | _ => cases h
theorem inD_bl {x y : D} {z : RV} (h : inD x y = some z) : ∃ b, z = .d (.bl b) := by
  cases y with
  | str s =>
    cases x with
    | str t =>
      match t, h with
      | [c], h => cases h; exact ⟨_, rfl⟩
      | [], h => cases h
      | _ :: _ :: _, h => cases h
    | _ => cases h
  | tup ys => exact ⟨_, (some_if (show (if flatD x && ys.all flatD then some (RV.d (.bl (inB x ys))) else none) = _ from h)).2.symm⟩
  | lst ys => exact ⟨_, (some_if (show (if (flatD x && ys.all flatD) || (shp x && shp (.lst ys)) then some (RV.d (.bl (inB x ys))) else none) = _ from h)).2.symm⟩
  | _ => cases h
theorem snd_in {K : PySem.W.Frag} : Snd2 K inD (rInAny K) := by
  intro W F R σ H env Q x y v w z S hx hy e p
  obtain ⟨b, rfl⟩ := inD_bl e
  have q := post_d S p (.bl b)
  rcases in_cases S.sub hx hy e with ⟨c, z, e1, e2, rfl⟩ | ⟨a, xs, e1, e2, e3, e4, rfl⟩ | ⟨d, ds, e1, e2, e3, e4, rfl⟩
  · exact .inl ⟨c, z, e1, e2, q⟩
  · exact .inr (.inl ⟨a, xs, e1, e2, e3, e4, q⟩)
  · exact .inr (.inr ⟨d, ds, e1, e2, e3, e4, q⟩)
theorem snd_ni {K : PySem.W.Frag} : Snd2 K notInD (rNiAny K) := by
  intro W F R σ H env Q x y v w z S hx hy e p
  unfold notInD at e
  cases hi : inD x y with
  | none => rw [hi] at e; cases e
  | some z' =>
    obtain ⟨b, rfl⟩ := inD_bl hi
    rw [hi] at e
    cases e
    have q := post_d S p (.bl (!b))
    rcases in_cases S.sub hx hy hi with ⟨c, z, e1, e2, rfl⟩ | ⟨a, xs, e1, e2, e3, e4, rfl⟩ | ⟨d, ds, e1, e2, e3, e4, rfl⟩
    · exact .inl ⟨c, z, e1, e2, q⟩
    · exact .inr (.inl ⟨a, xs, e1, e2, e3, e4, q⟩)
    · exact .inr (.inr ⟨d, ds, e1, e2, e3, e4, q⟩)
section
variable {X : Cx} {W : WX} {a b : Expr} {fa fb : SE} {pos : Pos}
theorem pd_eq (hu : X.A.units + 64 < cLine) (ha : PE X a (dE X.K W fa)) (hb : PE X b (dE X.K W fb)) : PE X (.Compare a [.Eq] [b] pos) (dE X.K W (two (op2 eqD) fa fb)) := pd_cmp (OpR.or op_eq (op_eqD hu)) snd_eq (nomark _) ha hb
end
end
end Dw
namespace Dw
noncomputable section
open PySem PySem.Spec PyProof.Rows L2
variable [Glo] [Tabs]
theorem _root_.L2.PT.wk {X : Cx} {e : Expr} {t u : TT} (h : PT X e t) (w : ∀ σ H Q, u σ H Q → t σ H Q) : PT X e u := ⟨fun pins s σ H Q I q => h.run pins s σ H Q I (w σ H Q q)⟩
theorem _root_.L2.PW.wk {X : Cx} {e : Expr} {t u : TT} (h : PW X e t) (w : ∀ σ H Q, u σ H Q → t σ H Q) : PW X e u := ⟨fun wh pins s σ H Q I q => h.run wh pins s σ H Q I (w σ H Q q)⟩
theorem _root_.L2.PA.wk {X : Cx} {e : List Expr} {t u : TA} (h : PA X e t) (w : ∀ σ H Q, u σ H Q → t σ H Q) : PA X e u := ⟨fun pos pins s σ H Q I q => h.run pos pins s σ H Q I (w σ H Q q)⟩
def truD : D → Option Bool
  | .non => some false
  | .bl b => some b
  | .int i => some (i != 0)
  | .str x => if x.length ≤ sizeLine then some (!x.isEmpty) else none
  | .lst xs => some (!xs.isEmpty)
  | .tup xs => some (!xs.isEmpty)
  | .dct _ _ => none
  | .dcu _ _ => none
  | .ins _ _ _ => none
def tru (a : RV) (env : Sl) : Option Bool := match pk a env with
  | some x => truD x
  | none => none
theorem isEmpty_rel {K : PySem.W.Frag} {F : Hp} {vs : List V} {xs : List D} (r : RelAll K F vs xs) : vs.isEmpty = xs.isEmpty := by
  cases r <;> rfl
theorem truD_ok {K : PySem.W.Frag} {F H : Hp} {v : V} {x : D} {k : Bool} (e : Ex F H) (h : Vw K F H v x) (t : truD x = some k) : TruV K v H k := by
  cases x with
  | non => cases h; cases t; rfl
  | bl b => cases h; cases t; rfl
  | int i => cases h; cases t; rfl
  | str x =>
    cases h
    obtain ⟨c, rfl⟩ := some_if t
    refine ⟨by rw [mk_len]; exact c, ?_⟩
    rw [mk_len]
    cases x with
    | nil => rfl
    | cons a l =>
      rw [List.length_cons]
      have : ((l.length + 1 : Nat) : Int) ≠ 0 := by omega
      simp [this]
      omega
  | lst xs =>
    obtain ⟨p, vs, rfl, s, r⟩ := h
    cases t
    exact .inl ⟨vs, s, by rw [isEmpty_rel r]⟩
  | tup xs =>
    cases h with
    | tup s r =>
      cases t
      exact .inr (.inl ⟨_, ex_t e s, by rw [isEmpty_rel r]⟩)
  | dct _ _ => cases t
  | dcu _ _ => cases t
  | ins _ _ _ => cases t
section
variable (K : PySem.W.Frag) (W : WX)
def PostT (F : Hp) (R : Fm) (σ : L2.St) (r : Re) (Q : Bool → Hp → Prop) : Prop :=
  match r with
  | .ok a env' => ∃ b, tru a env' = some b ∧ ∀ F' H', Ex F F' → Sta K F' R σ H' env' → Q b H'
  | .ex e env' => ∀ cls d F' H', Ex F F' → Sta K F' R σ H' env' → XnAt K F' e cls d → W cls d σ H'
def dT (f : SE) : TT := fun σ H Q => ∃ env F R r, Sta K F R σ H env ∧ f env = some r ∧ PostT K W F R σ r Q
end
section
variable {K : PySem.W.Frag} {W : WX} {F F' : Hp} {R : Fm} {σ : L2.St} {H H' : Hp} {env : Sl} {Q : Bool → Hp → Prop}
/-- a test by the value's truth -/
theorem dT_tru {f : SE} (h : dT K W f σ H Q) : dE K W f σ H fun x H' => ∃ k, TruV K x H' k ∧ Q k H' := by
  obtain ⟨env, F, R, r, S, e, p⟩ := h
  refine ⟨env, F, R, r, S, e, ?_⟩
  cases r with
  | ok a env' =>
    obtain ⟨b, hb, p⟩ := p
    intro v F' H' e1 S1 rv
    unfold tru at hb
    cases hx : pk a env' with
    | none => rw [hx] at hb; cases hb
    | some x =>
      rw [hx] at hb
      exact ⟨b, truD_ok S1.sub (pk_vw S1 rv hx) hb, p F' H' e1 S1⟩
  | ex x env' => exact p
end
section
variable {X : Cx} {W : WX} {a b : Expr} {fa fb fc : SE} {pos : Pos} {rest : List Expr}
theorem pt_d {e : Expr} {f : SE} (h : PE X e (dE X.K W f)) (he : ∀ whole, isTrue e X.env whole = (do let v ← whole; standAt e.pos; holding [v] (truthy v)) := by intro _; rfl) : PT X e (dT X.K W f) :=
  (pt_truth h he).wk fun _ _ _ q => dT_tru q
/-- a comparison as a test: what it gives is True or False -/
theorem pt_dcmp {op : CmpOp} {r : R2} {f : D → D → Option RV} (ho : OpR X (compareOp op) r) (hs : Snd2 X.K f r) (hf : ∀ x y z, f x y = some z → ∃ b, z = .d (.bl b)) (hm : behindInMarks op b = false) (ha : PE X a (dE X.K W fa)) (hb : PE X b (dE X.K W fb)) :
    PT X (.Compare a [op] [b] pos) (dT X.K W (two (op2 f) fa fb)) := by
  refine (pt_cmpR ho ha hb hm).wk fun σ H Q q => ?_
  have key : dE X.K W (two (op2 f) fa fb) σ H fun x H' => ∃ k, x = .bl k ∧ Q k H' := by
    obtain ⟨env, F, R, r, S, e, p⟩ := q
    refine ⟨env, F, R, r, S, e, ?_⟩
    cases r with
    | ok a' env' =>
      obtain ⟨k, hk, p⟩ := p
      -- the value is a bool
      have hb : ∃ c, a' = .d (.bl c) := by
        rcases bindE_inv e with ⟨a1, e1, _, h1⟩ | ⟨x, e1, _, h1⟩
        · rcases bindE_inv h1 with ⟨a2, e2, _, h2⟩ | ⟨x, e1, _, h2⟩
          · obtain ⟨x, y, z, _, _, h3, h4⟩ := op2_inv h2
            obtain ⟨c, rfl⟩ := hf x y z h3
            cases h4
            exact ⟨c, rfl⟩
          · cases h2
        · cases h1
      obtain ⟨c, rfl⟩ := hb
      have hc : c = k := Option.some.inj hk
      subst hc
      intro v F' H' e1 S1 rv
      cases (show Rel X.K F' v (.bl c) from rv)
      exact ⟨c, rfl, p F' H' e1 S1⟩
    | ex x env' => exact p
  exact dE_two key fun _ _ _ _ _ _ _ _ S h1 h2 h => op2_snd hs S h1 h2 h
def andE (fa fb : SE) : SE := fun env => bindE (fa env) fun a env1 => match tru a env1 with
  | some true => fb env1
  | some false => some (.ok a env1)
  | none => none
def orE (fa fb : SE) : SE := fun env => bindE (fa env) fun a env1 => match tru a env1 with
  | some true => some (.ok a env1)
  | some false => fb env1
  | none => none
def notE (fa : SE) : SE := fun env => bindE (fa env) fun a env1 => (tru a env1).map fun b => .ok (.d (.bl (!b))) env1
def ifE (fc fa fb : SE) : SE := fun env => bindE (fc env) fun c env1 => match tru c env1 with
  | some true => fa env1
  | some false => fb env1
  | none => none
end
section
variable {K : PySem.W.Frag} {W : WX} {F F' : Hp} {R : Fm} {σ : L2.St} {H : Hp}
theorem PostT.up {Q : Bool → Hp → Prop} (e : Ex F F') : ∀ {r : Re}, PostT K W F R σ r Q → PostT K W F' R σ r Q
  | .ok _ _, ⟨b, hb, h⟩ => ⟨b, hb, fun F2 H2 e2 s => h F2 H2 (e.trans e2) s⟩
  | .ex _ _, h => fun c d F2 H2 e2 s q => h c d F2 H2 (e.trans e2) s q
theorem dT_and {fa fb : SE} {Q : Bool → Hp → Prop} (h : dT K W (andE fa fb) σ H Q) : tAnd (dT K W fa) (dT K W fb) σ H Q := by
  obtain ⟨env, F, R, r, S, e, p⟩ := h
  rcases bindE_inv e with ⟨a, env1, h1, h2⟩ | ⟨x, env1, h1, rfl⟩
  · refine ⟨env, F, R, _, S, h1, ?_⟩
    cases ht : tru a env1 with
    | none => rw [ht] at h2; cases h2
    | some b =>
      rw [ht] at h2
      refine ⟨b, ht, fun F1 H1 e1 S1 => ?_⟩
      cases b with
      | true => exact iteT ⟨env1, F1, R, r, S1, h2, p.up e1⟩
      | false =>
        refine iteF ?_
        cases h2
        obtain ⟨b, hb, q⟩ := p
        rw [ht] at hb
        cases hb
        exact q F1 H1 e1 S1
  · exact ⟨env, F, R, _, S, h1, p⟩
theorem dT_or {fa fb : SE} {Q : Bool → Hp → Prop} (h : dT K W (orE fa fb) σ H Q) : tOr (dT K W fa) (dT K W fb) σ H Q := by
  obtain ⟨env, F, R, r, S, e, p⟩ := h
  rcases bindE_inv e with ⟨a, env1, h1, h2⟩ | ⟨x, env1, h1, rfl⟩
  · refine ⟨env, F, R, _, S, h1, ?_⟩
    cases ht : tru a env1 with
    | none => rw [ht] at h2; cases h2
    | some b =>
      rw [ht] at h2
      refine ⟨b, ht, fun F1 H1 e1 S1 => ?_⟩
      cases b with
      | false => exact iteF ⟨env1, F1, R, r, S1, h2, p.up e1⟩
      | true =>
        refine iteT ?_
        cases h2
        obtain ⟨b, hb, q⟩ := p
        rw [ht] at hb
        cases hb
        exact q F1 H1 e1 S1
  · exact ⟨env, F, R, _, S, h1, p⟩
theorem dT_not {fa : SE} {Q : Bool → Hp → Prop} (h : dT K W (notE fa) σ H Q) : tNot (dT K W fa) σ H Q := by
  obtain ⟨env, F, R, r, S, e, p⟩ := h
  rcases bindE_inv e with ⟨a, env1, h1, h2⟩ | ⟨x, env1, h1, rfl⟩
  · refine ⟨env, F, R, _, S, h1, ?_⟩
    cases ht : tru a env1 with
    | none => rw [ht] at h2; cases h2
    | some b =>
      rw [ht] at h2
      cases h2
      obtain ⟨c, hc, q⟩ := p
      cases hc
      exact ⟨b, ht, fun F1 H1 e1 S1 => q F1 H1 e1 S1⟩
  · exact ⟨env, F, R, _, S, h1, p⟩
theorem tru_of {F : Hp} {R : Fm} {env : Sl} {a : RV} {v : V} {k : Bool} (S : Sta K F R σ H env) (h : RvOk K F R σ H env v a) (t : tru a env = some k) : TruV K v H k := by
  unfold tru at t
  cases hx : pk a env with
  | none => rw [hx] at t; cases t
  | some x =>
    rw [hx] at t
    exact truD_ok S.sub (pk_vw S h hx) t
theorem dE_and {fa fb : SE} {Q : VK} (h : dE K W (andE fa fb) σ H Q) : tAndT K (dE K W fa) (dE K W fb) σ H Q := by
  refine dE_one (op := fun a env1 => match tru a env1 with | some true => fb env1 | some false => some (.ok a env1) | none => none) h fun a env F R v H1 S rv q => ?_
  obtain ⟨r, e, p⟩ := q
  dsimp only at e
  cases ht : tru a env with
  | none => rw [ht] at e; cases e
  | some b =>
    rw [ht] at e
    refine ⟨b, tru_of S rv ht, ?_⟩
    cases b with
    | true => exact iteT ⟨env, F, R, r, S, e, p⟩
    | false =>
      cases e
      exact iteF (p v F H1 (Ex.refl F) S rv)
theorem dE_or {fa fb : SE} {Q : VK} (h : dE K W (orE fa fb) σ H Q) : tOrT K (dE K W fa) (dE K W fb) σ H Q := by
  refine dE_one (op := fun a env1 => match tru a env1 with | some true => some (.ok a env1) | some false => fb env1 | none => none) h fun a env F R v H1 S rv q => ?_
  obtain ⟨r, e, p⟩ := q
  dsimp only at e
  cases ht : tru a env with
  | none => rw [ht] at e; cases e
  | some b =>
    rw [ht] at e
    refine ⟨b, tru_of S rv ht, ?_⟩
    cases b with
    | false => exact iteF ⟨env, F, R, r, S, e, p⟩
    | true =>
      cases e
      exact iteT (p v F H1 (Ex.refl F) S rv)
theorem dE_if {fc fa fb : SE} {Q : VK} (h : dE K W (ifE fc fa fb) σ H Q) : tIf (dT K W fc) (dE K W fa) (dE K W fb) σ H Q := by
  obtain ⟨env, F, R, r, S, e, p⟩ := h
  rcases bindE_inv e with ⟨a, env1, h1, h2⟩ | ⟨x, env1, h1, rfl⟩
  · refine ⟨env, F, R, _, S, h1, ?_⟩
    cases ht : tru a env1 with
    | none => rw [ht] at h2; cases h2
    | some b =>
      rw [ht] at h2
      refine ⟨b, ht, fun F1 H1 e1 S1 => ?_⟩
      cases b with
      | true => exact iteT ⟨env1, F1, R, r, S1, h2, p.up e1⟩
      | false => exact iteF ⟨env1, F1, R, r, S1, h2, p.up e1⟩
  · exact ⟨env, F, R, _, S, h1, p⟩
end
section
variable {X : Cx} {W : WX} {a b c : Expr} {fa fb fc : SE} {pos : Pos} {rest : List Expr}
theorem pw_dand1 (ha : PT X a (dT X.K W fa)) : PW X (.BoolOp .And [a] pos) (dT X.K W fa) := pw_and1 ha
theorem pw_dor1 (ha : PT X a (dT X.K W fa)) : PW X (.BoolOp .Or [a] pos) (dT X.K W fa) := pw_or1 ha
theorem pw_dand (ha : PT X a (dT X.K W fa)) (hb : PW X (.BoolOp .And (b :: rest) pos) (dT X.K W fb)) : PW X (.BoolOp .And (a :: b :: rest) pos) (dT X.K W (andE fa fb)) := (pw_and ha hb).wk fun _ _ _ q => dT_and q
theorem pw_dor (ha : PT X a (dT X.K W fa)) (hb : PW X (.BoolOp .Or (b :: rest) pos) (dT X.K W fb)) : PW X (.BoolOp .Or (a :: b :: rest) pos) (dT X.K W (orE fa fb)) := (pw_or ha hb).wk fun _ _ _ q => dT_or q
theorem pt_dnot (ha : PT X a (dT X.K W fa)) : PT X (.UnaryOp .Not a pos) (dT X.K W (notE fa)) := (pt_not ha).wk fun _ _ _ q => dT_not q
theorem pd_one {op} (h : PE X a (dE X.K W fa)) : PE X (.BoolOp op [a] pos) (dE X.K W fa) := pe_one h
theorem pd_and (ha : PE X a (dE X.K W fa)) (hb : PE X (.BoolOp .And (b :: rest) pos) (dE X.K W fb)) : PE X (.BoolOp .And (a :: b :: rest) pos) (dE X.K W (andE fa fb)) := (pe_andT ha hb).wk fun _ _ _ q => dE_and q
theorem pd_or (ha : PE X a (dE X.K W fa)) (hb : PE X (.BoolOp .Or (b :: rest) pos) (dE X.K W fb)) : PE X (.BoolOp .Or (a :: b :: rest) pos) (dE X.K W (orE fa fb)) := (pe_orT ha hb).wk fun _ _ _ q => dE_or q
theorem pd_if (hc : PT X c (dT X.K W fc)) (ha : PE X a (dE X.K W fa)) (hb : PE X b (dE X.K W fb)) : PE X (.IfExp c a b pos) (dE X.K W (ifE fc fa fb)) := (pe_ifExp hc ha hb).wk fun _ _ _ q => dE_if q
theorem bl_eq {x y : D} {z : RV} (h : eqD x y = some z) : ∃ b, z = .d (.bl b) := ⟨_, (some_if h).2.symm⟩
theorem bl_ne {x y : D} {z : RV} (h : neD x y = some z) : ∃ b, z = .d (.bl b) := ⟨_, (some_if h).2.symm⟩
theorem bl_gt {x y : D} {z : RV} (h : gtD x y = some z) : ∃ b, z = .d (.bl b) := by cases x <;> cases y <;> first | (cases h; done) | (cases h; exact ⟨_, rfl⟩)
theorem bl_ge {x y : D} {z : RV} (h : geD x y = some z) : ∃ b, z = .d (.bl b) := by cases x <;> cases y <;> first | (cases h; done) | (cases h; exact ⟨_, rfl⟩)
theorem bl_is {x y : D} {z : RV} (h : isD x y = some z) : ∃ b, z = .d (.bl b) := by cases x <;> cases y <;> first | (cases h; done) | (cases h; exact ⟨_, rfl⟩)
theorem bl_isNot {x y : D} {z : RV} (h : isNotD x y = some z) : ∃ b, z = .d (.bl b) := by cases x <;> cases y <;> first | (cases h; done) | (cases h; exact ⟨_, rfl⟩)
theorem pt_eqd (hu : X.A.units + 64 < cLine) (ha : PE X a (dE X.K W fa)) (hb : PE X b (dE X.K W fb)) : PT X (.Compare a [.Eq] [b] pos) (dT X.K W (two (op2 eqD) fa fb)) := pt_dcmp (OpR.or op_eq (op_eqD hu)) snd_eq (fun _ _ _ => bl_eq) (nomark _) ha hb
theorem pt_ned (hu : X.A.units + 64 < cLine) (ha : PE X a (dE X.K W fa)) (hb : PE X b (dE X.K W fb)) : PT X (.Compare a [.NotEq] [b] pos) (dT X.K W (two (op2 neD) fa fb)) := pt_dcmp (OpR.or op_ne (op_neD hu)) snd_ne (fun _ _ _ => bl_ne) (nomark _) ha hb
theorem pt_gtd (ha : PE X a (dE X.K W fa)) (hb : PE X b (dE X.K W fb)) : PT X (.Compare a [.Gt] [b] pos) (dT X.K W (two (op2 gtD) fa fb)) := pt_dcmp op_gt snd_gt (fun _ _ _ => bl_gt) (nomark _) ha hb
theorem pt_ged (ha : PE X a (dE X.K W fa)) (hb : PE X b (dE X.K W fb)) : PT X (.Compare a [.GtE] [b] pos) (dT X.K W (two (op2 geD) fa fb)) := pt_dcmp op_ge snd_ge (fun _ _ _ => bl_ge) (nomark _) ha hb
theorem pt_isd (ha : PE X a (dE X.K W fa)) (hb : PE X b (dE X.K W fb)) : PT X (.Compare a [.Is] [b] pos) (dT X.K W (two (op2 isD) fa fb)) := pt_dcmp (OpR.or op_isN op_isBl) snd_is (fun _ _ _ => bl_is) (nomark _) ha hb
theorem pt_isNotd (ha : PE X a (dE X.K W fa)) (hb : PE X b (dE X.K W fb)) : PT X (.Compare a [.IsNot] [b] pos) (dT X.K W (two (op2 isNotD) fa fb)) := pt_dcmp (OpR.or op_notN op_notBl) snd_isNot (fun _ _ _ => bl_isNot) (nomark _) ha hb
end
end
end Dw
namespace Dw
noncomputable section
open PySem PySem.Spec PyProof.Rows L2
variable [Glo] [Tabs]
inductive ReA where
  | ok (as : List RV) (env : Sl) | ex (e : Xn) (env : Sl)
abbrev SA := Sl → Option ReA
def bindEA (x : Option Re) (k : RV → SA) : Option ReA :=
  match x with
  | some (.ok a env) => k a env
  | some (.ex e env) => some (.ex e env)
  | none => none
def bindA (x : Option ReA) (k : List RV → SE) : Option Re :=
  match x with
  | some (.ok as env) => k as env
  | some (.ex e env) => some (.ex e env)
  | none => none
@[simp] theorem bindEA_ok {a : RV} {env : Sl} {k : RV → SA} : bindEA (some (.ok a env)) k = k a env := rfl
@[simp] theorem bindEA_ex {e : Xn} {env : Sl} {k : RV → SA} : bindEA (some (.ex e env)) k = some (.ex e env) := rfl
@[simp] theorem bindEA_none {k : RV → SA} : bindEA none k = none := rfl
@[simp] theorem bindA_ok {a : List RV} {env : Sl} {k : List RV → SE} : bindA (some (.ok a env)) k = k a env := rfl
@[simp] theorem bindA_ex {e : Xn} {env : Sl} {k : List RV → SE} : bindA (some (.ex e env)) k = some (.ex e env) := rfl
@[simp] theorem bindA_none {k : List RV → SE} : bindA none k = none := rfl
def nilA : SA := fun env => some (.ok [] env)
def mapA (x : Option ReA) (g : List RV → List RV) : Option ReA :=
  match x with
  | some (.ok as env) => some (.ok (g as) env)
  | some (.ex e env) => some (.ex e env)
  | none => none
@[simp] theorem mapA_ok {a : List RV} {env : Sl} {g : List RV → List RV} : mapA (some (.ok a env)) g = some (.ok (g a) env) := rfl
@[simp] theorem mapA_ex {e : Xn} {env : Sl} {g : List RV → List RV} : mapA (some (.ex e env)) g = some (.ex e env) := rfl
@[simp] theorem mapA_none {g : List RV → List RV} : mapA none g = none := rfl
def consA (fa : SE) (fr : SA) : SA := fun env => bindEA (fa env) fun a env1 => mapA (fr env1) (a :: ·)
def HeldAll (K : PySem.W.Frag) (F : Hp) (R R' : Fm) (σ : L2.St) : List V → List RV → Prop
  | [], [] => True
  | v :: vs, a :: as => Held K F R R' σ v a ∧ (∀ c, a = .own c → ∀ w b, (w, b) ∈ vs.zip as → ∀ c', b = .own c' → w ≠ v) ∧ HeldAll K F R R' σ vs as
  | _, _ => False
section
variable (K : PySem.W.Frag) (W : WX)
def PostA (F : Hp) (R : Fm) (σ : L2.St) (r : ReA) (Q : List V → Hp → Prop) : Prop :=
  match r with
  | .ok as env' => ∀ vs F' H' R', Ex F F' → FEx R R' → Sta K F' R' σ H' env' → HeldAll K F' R R' σ vs as → Q vs H'
  | .ex e env' => ∀ cls d F' H', Ex F F' → Sta K F' R σ H' env' → XnAt K F' e cls d → W cls d σ H'
def dA (f : SA) : TA := fun σ H Q => ∃ env F R r, Sta K F R σ H env ∧ f env = some r ∧ PostA K W F R σ r Q
end
section
variable {K : PySem.W.Frag} {W : WX} {F F' : Hp} {R R' R2 : Fm} {σ : L2.St} {H H' : Hp} {env : Sl}
theorem FEx.trans {R R' R2 : Fm} (a : FEx R R') (b : FEx R' R2) : FEx R R2 := ⟨a.1.trans b.1, a.2.trans b.2⟩
theorem Held.low {v : V} {a : RV} (e : FEx R R') (h : Held K F R' R2 σ v a) : Held K F R R2 σ v a := by
  cases a with
  | d x => exact h
  | cv i => exact h
  | own c =>
    obtain ⟨p, o, e1, e2, e3, e4⟩ := h
    exact ⟨p, o, e1, ex_none e.1 e2, e3, e4⟩
theorem Held.high {v : V} {a : RV} (e : FEx R' R2) (h : Held K F R R' σ v a) : Held K F R R2 σ v a := by
  cases a with
  | d x => exact h
  | cv i => exact h
  | own c =>
    obtain ⟨p, o, e1, e2, e3, e4⟩ := h
    exact ⟨p, o, e1, e2, e.1 p o e3, e4⟩
theorem Held.up {v : V} {a : RV} (e : Ex F F') (h : Held K F R R' σ v a) : Held K F' R R' σ v a := by
  cases a with
  | d x => exact Rel.up e h
  | cv i => exact h
  | own c =>
    obtain ⟨p, o, e1, e2, e3, e4⟩ := h
    exact ⟨p, o, e1, e2, e3, e4.up e⟩
theorem HeldAll.low (e : FEx R R') : ∀ {vs : List V} {as : List RV}, HeldAll K F R' R2 σ vs as → HeldAll K F R R2 σ vs as
  | [], [], _ => trivial
  | v :: vs, a :: as, h => ⟨h.1.low e, h.2.1, HeldAll.low e h.2.2⟩
  | [], _ :: _, h => h.elim
  | _ :: _, [], h => h.elim
theorem heldAll_none : ∀ {vs : List V} {as : List RV}, HeldAll K F R R' σ vs as → ∀ w b, (w, b) ∈ vs.zip as → ∀ c', b = .own c' → ∃ q, w = .ref q ∧ R.r q = none
  | [], [], _, w, b, h, _, _ => by simp at h
  | v :: vs, a :: as, h, w, b, hm, c', hb => by
    rw [List.zip_cons_cons, List.mem_cons] at hm
    rcases hm with hm | hm
    · cases hm
      subst hb
      obtain ⟨p, o, e1, e2, _⟩ := h.1
      exact ⟨p, e1, e2⟩
    · exact heldAll_none h.2.2 w b hm c' hb
  | [], _ :: _, h, _, _, _, _, _ => h.elim
  | _ :: _, [], h, _, _, _, _, _ => h.elim
theorem dA_cons {fa : SE} {fr : SA} {Q : List V → Hp → Prop} (h : dA K W (consA fa fr) σ H Q) : tCons (dE K W fa) (dA K W fr) σ H Q := by
  obtain ⟨env, F, R, r, S, e, p⟩ := h
  have e : bindEA (fa env) (fun a env1 => mapA (fr env1) (a :: ·)) = some r := e
  cases h1 : fa env with
  | none => rw [h1] at e; cases e
  | some q =>
    rw [h1] at e
    cases q with
    | ex x env1 =>
      cases e
      exact ⟨env, F, R, _, S, h1, p⟩
    | ok a env1 =>
      rw [bindEA_ok] at e
      refine ⟨env, F, R, _, S, h1, fun v F1 H1 e1 S1 rv => ?_⟩
      obtain ⟨R1, eR, S1', hd⟩ := hold S1 rv
      cases h2 : fr env1 with
      | none => rw [h2] at e; cases e
      | some q2 =>
        rw [h2] at e
        cases q2 with
        | ex x env2 =>
          cases e
          exact ⟨env1, F1, R1, _, S1', h2, fun cls d F2 H2 e2 S2 hx => p cls d F2 H2 (e1.trans e2) (S2.unhold eR) hx⟩
        | ok as env2 =>
          cases e
          refine ⟨env1, F1, R1, _, S1', h2, fun vs F2 H2 R2 e2 eR2 S2 hvs => ?_⟩
          refine p (v :: vs) F2 H2 R2 (e1.trans e2) (eR.trans eR2) S2 ⟨(hd.up e2).high eR2, fun c ec w b hm c' hb => ?_, hvs.low eR⟩
          subst ec
          obtain ⟨q, e3, e4⟩ := heldAll_none hvs w b hm c' hb
          obtain ⟨q', o, e5, _, e6, _⟩ := hd
          subst e3
          subst e5
          intro z
          cases z
          rw [e4] at e6
          cases e6
end
section
variable {X : Cx} {W : WX} {e : Expr} {es : List Expr} {fa : SE} {fr : SA}
theorem pa_dnil : PA X [] (dA X.K W nilA) := pa_nil.wk fun σ H Q q => by
  obtain ⟨env, F, R, r, S, e, p⟩ := q
  cases e
  exact p [] F H R (Ex.refl F) (FEx.refl R) S trivial
theorem pa_dcons (ha : PE X e (dE X.K W fa)) (hr : PA X es (dA X.K W fr)) (hs : starEach (e :: es) X.env = (false, eval e X.env) :: starEach es X.env := by rfl) : PA X (e :: es) (dA X.K W (consA fa fr)) := (pa_cons ha hr hs).wk fun _ _ _ q => dA_cons q
end
def pks : List RV → Sl → Option (List D)
  | [], _ => some []
  | a :: as, env => (pk a env).bind fun x => (pks as env).map (x :: ·)
def VwAll (K : PySem.W.Frag) (F H : Hp) : List V → List D → Prop
  | [], [] => True
  | v :: vs, x :: xs => Vw K F H v x ∧ VwAll K F H vs xs
  | _, _ => False
section
variable {K : PySem.W.Frag} {W : WX} {F F' : Hp} {R R' : Fm} {σ : L2.St} {H H' : Hp} {env : Sl} {Q : VK}
theorem pks_vw (eR : FEx R R') (S : Sta K F R' σ H env) : ∀ {vs : List V} {as : List RV} {xs : List D}, HeldAll K F R R' σ vs as → pks as env = some xs → VwAll K F H vs xs
  | [], [], xs, _, e => by cases e; trivial
  | v :: vs, a :: as, xs, h, e => by
    have e : ((pk a env).bind fun x => (pks as env).map (x :: ·)) = some xs := e
    rw [Option.bind_eq_some_iff] at e
    obtain ⟨x, h1, e⟩ := e
    rw [Option.map_eq_some_iff] at e
    obtain ⟨ys, h2, rfl⟩ := e
    exact ⟨pk_vw (S.unhold eR) (unheld (Ex.refl F) eR S h.1) h1, pks_vw eR S h.2.2 h2⟩
  | [], _ :: _, _, h, _ => h.elim
  | _ :: _, [], _, h, _ => h.elim
/-- what a call of a built-in makes of what it sees -/
def callE (f : List D → Option RV) (fa : SA) : SE := fun env => bindA (fa env) fun as env1 => (pks as env1).bind fun xs => (f xs).map (Re.ok · env1)
def SndC (K : PySem.W.Frag) (f : List D → Option RV) (r : List V → Hp → VK → Prop) : Prop := ∀ {W : WX} {F : Hp} {R : Fm} {σ : L2.St} {H : Hp} {env : Sl} {Q : VK} {xs : List D} {vs : List V} {z : RV},
  Sta K F R σ H env → VwAll K F H vs xs → f xs = some z → PostE K W F R σ (.ok z env) Q → r vs H Q
theorem dE_callB {f : List D → Option RV} {r : List V → Hp → VK → Prop} {fa : SA} (hs : SndC K f r) (h : dE K W (callE f fa) σ H Q) : tCB r (dA K W fa) σ H Q := by
  obtain ⟨env, F, R, r', S, e, p⟩ := h
  have e : bindA (fa env) (fun as env1 => (pks as env1).bind fun xs => (f xs).map (Re.ok · env1)) = some r' := e
  cases h1 : fa env with
  | none => rw [h1] at e; cases e
  | some q =>
    rw [h1] at e
    cases q with
    | ex x env1 =>
      cases e
      exact ⟨env, F, R, _, S, h1, p⟩
    | ok as env1 =>
      rw [bindA_ok, Option.bind_eq_some_iff] at e
      obtain ⟨xs, h2, e⟩ := e
      rw [Option.map_eq_some_iff] at e
      obtain ⟨z, h3, rfl⟩ := e
      exact ⟨env, F, R, _, S, h1, fun vs F1 H1 R1 e1 eR S1 hv => hs (S1.unhold eR) (pks_vw eR S1 hv h2) h3 (p.up e1)⟩
end
section
variable {X : Cx} {W : WX} {x : Str} {p pos : Pos} {e : Expr} {es : List Expr} {fa : SA} {id T : String} {f : List D → Option RV} {r : List V → Hp → VK → Prop}
theorem pd_callB (hc : CallR X (.builtin id) r) (hs : SndC X.K f r) (hm : X.mg x = none) (hv : bootBuiltins x = some (.builtin id)) (ha : PA X (e :: es) (dA X.K W fa)) (hg : Gl X x := by rfl) (hn : x ≠ "__name__" := by decide) (hdb : (x == ("__debug__" : Str)) = false := by decide)
    (he : starEach (e :: es) X.env = (false, eval e X.env) :: starEach es X.env := by rfl) (hpl : (backTo pos (starEach es X.env)).any (·.1) = false := by rfl) : PE X (.Call (.Name x p) (e :: es) [] pos) (dE X.K W (callE f fa)) :=
  (pe_callB hc hg hm hv ha hn hdb he hpl).wk fun _ _ _ q => dE_callB hs q
theorem pd_callTy (hc : CallR X (.type T) r) (hs : SndC X.K f r) (hm : X.mg x = none) (hv : bootBuiltins x = some (.type T)) (ha : PA X (e :: es) (dA X.K W fa)) (hg : Gl X x := by rfl) (hn : x ≠ "__name__" := by decide) (hdb : (x == ("__debug__" : Str)) = false := by decide)
    (he : starEach (e :: es) X.env = (false, eval e X.env) :: starEach es X.env := by rfl) (hpl : (backTo pos (starEach es X.env)).any (·.1) = false := by rfl) : PE X (.Call (.Name x p) (e :: es) [] pos) (dE X.K W (callE f fa)) :=
  (pe_callTy hc hg hm hv ha hn hdb he hpl).wk fun _ _ _ q => dE_callB hs q
end
theorem CallR.or {X : Cx} {f : Value} {r r' : List V → Hp → VK → Prop} (h : CallR X f r) (h' : CallR X f r') : CallR X f (fun xs H Q => r xs H Q ∨ r' xs H Q) := by
  intro pins s σ H xs us Q I rr q
  rcases q with q | q
  · exact h pins s σ H xs us Q I rr q
  · exact h' pins s σ H xs us Q I rr q
def getD : D → D → Option RV
  | .lst xs, .int i => (atI xs i).map .d
  | .tup xs, .int i => (atI xs i).map .d
  | .str x, .int i => if x.length ≤ sizeLine then (atI x i).map fun c => .d (.str [c]) else none
  | _, _ => none
theorem RelAll.atI {K : PySem.W.Frag} {F : Hp} {vs : List V} {xs : List D} {i : Int} {x : D} (r : RelAll K F vs xs) (h : L2.atI xs i = some x) : ∃ v, L2.atI vs i = some v ∧ Rel K F v x := by
  unfold L2.atI at h ⊢
  rw [Option.bind_eq_some_iff] at h
  obtain ⟨j, h1, h2⟩ := h
  rw [r.len, h1]
  obtain ⟨v, e, rv⟩ := r.getD h2
  exact ⟨v, e, rv⟩
theorem snd_get {K : PySem.W.Frag} : Snd2 K getD (rIx K) := by
  intro W F R σ H env Q x y v w z S hx hy e p
  cases y with
  | int i =>
    cases hy
    cases x with
    | lst xs =>
      obtain ⟨a, vs, rfl, s, r⟩ := hx
      have e : (L2.atI xs i).map RV.d = some z := e
      rw [Option.map_eq_some_iff] at e
      obtain ⟨d, h1, rfl⟩ := e
      obtain ⟨u, h2, ru⟩ := r.atI h1
      exact .inl ⟨a, vs, i, u, rfl, rfl, s, h2, post_d S p ru⟩
    | tup xs =>
      cases hx with
      | tup s r =>
        have e : (L2.atI xs i).map RV.d = some z := e
        rw [Option.map_eq_some_iff] at e
        obtain ⟨d, h1, rfl⟩ := e
        obtain ⟨u, h2, ru⟩ := r.atI h1
        exact .inr (.inl ⟨_, _, i, u, rfl, rfl, ex_t S.sub s, h2, post_d S p ru⟩)
    | str x =>
      cases hx
      have e : (if x.length ≤ sizeLine then (L2.atI x i).map fun c => RV.d (.str [c]) else none) = some z := e
      by_cases hl : x.length ≤ sizeLine
      · rw [if_pos hl, Option.map_eq_some_iff] at e
        obtain ⟨c, h1, rfl⟩ := e
        exact .inr (.inr ⟨mk x, i, c, rfl, rfl, by rw [mk_len]; exact hl, h1, post_d S p (.str [c])⟩)
      · rw [if_neg hl] at e
        cases e
    | _ => cases e
  | _ => cases x <;> cases e
section
variable {X : Cx} {W : WX} {a b : Expr} {fa fb : SE} {pos : Pos}
theorem pd_get (ha : PE X a (dE X.K W fa)) (hb : PE X b (dE X.K W fb)) (hs : PlainIx b := by exact fun _ _ => rfl) : PE X (.Subscript a b pos) (dE X.K W (two (op2 getD) fa fb)) :=
  (pe_ix ix_seq ha hb hs).wk fun σ H Q q => dE_two q fun _ _ _ _ _ _ _ _ S h1 h2 h => op2_snd snd_get S h1 h2 h
end
def cutL {α : Type} (xs : List α) (lo hi : Option Int) : List α := (xs.drop (HT.sIx xs.length 0 lo)).take (HT.sIx xs.length xs.length hi - HT.sIx xs.length 0 lo)
theorem cutS_L (x : List Nat) (lo hi : Option Int) : cutS (mk x) lo hi = mk (cutL x lo hi) := by
  unfold cutS cutL mk
  simp [Str.length]
def bindO (fo : Option SE) (env : Sl) (k : Option Int → SE) : Option Re :=
  match fo with
  | none => k none env
  | some f => bindE (f env) fun b env1 => match pk b env1 with
    | some (.int i) => k (some i) env1
    | _ => none
def cutD (x : D) (lo hi : Option Int) : Option RV := match x with
  | .lst xs => some (.own (.lst (cutL xs lo hi)))
  | .tup xs => some (.d (.tup (cutL xs lo hi)))
  | .str x => if x.length ≤ sizeLine then some (.d (.str (cutL x lo hi))) else none
  | _ => none
def sliceE (fe : SE) (fl fh : Option SE) : SE := fun env => bindE (fe env) fun a env1 => bindO fl env1 fun lo env2 => bindO fh env2 fun hi env3 => (pk a env3).bind fun x => (cutD x lo hi).map (Re.ok · env3)
def tO (K : PySem.W.Frag) (W : WX) : Option SE → TO
  | none => tNoPart
  | some f => tPart (dE K W f)
theorem RelAll.cut {K : PySem.W.Frag} {F : Hp} {vs : List V} {xs : List D} (r : RelAll K F vs xs) (lo hi : Option Int) : RelAll K F (cutL vs lo hi) (cutL xs lo hi) := by
  unfold cutL
  rw [r.len]
  exact (r.drop _).take _
theorem cut_whole {α : Type} {xs : List α} {lo hi : Option Int} (h : HT.sIx xs.length 0 lo = 0 ∧ HT.sIx xs.length xs.length hi = xs.length) : cutL xs lo hi = xs := by
  unfold cutL
  rw [h.1, h.2, List.drop_zero, Nat.sub_zero, List.take_length]
def rSlAny (K : PySem.W.Frag) : V → Option Int → Option Int → Hp → VK → Prop := fun x lo hi H Q => rSlL K x lo hi H Q ∨ rSlA K x lo hi H Q ∨ rSlS x lo hi H Q
theorem sl_any {X : Cx} : SlR X (rSlAny X.K) := SlR.or sl_list (SlR.or sl_tupA sl_str)
section
variable {K : PySem.W.Frag} {W : WX} {F F' : Hp} {R R' : Fm} {σ : L2.St} {H H' : Hp} {env : Sl} {Q : VK}
theorem snd_cut {x : D} {v : V} {lo hi : Option Int} {z : RV} (S : Sta K F R σ H env) (hx : Vw K F H v x) (e : cutD x lo hi = some z) (p : PostE K W F R σ (.ok z env) Q) : rSlAny K v lo hi H Q := by
  cases x with
  | lst xs =>
    obtain ⟨a, vs, rfl, s, r⟩ := hx
    cases e
    exact .inl ⟨a, vs, rfl, s, fun q hq => post_new S p hq (r.cut lo hi)⟩
  | tup xs =>
    cases hx with
    | tup s r =>
      cases e
      refine .inr (.inl ⟨_, _, rfl, ex_t S.sub s, fun hw => ?_, fun _ q hq => post_tup S p hq (r.cut lo hi)⟩)
      rw [r.len] at hw
      rw [cut_whole hw] at p
      exact post_d S p (.tup s r)
  | str x =>
    cases hx
    obtain ⟨c, rfl⟩ := some_if e
    refine .inr (.inr ⟨mk x, rfl, by rw [mk_len]; exact c, ?_⟩)
    rw [cutS_L]
    exact post_d S p (.str _)
  | _ => cases e
/-- one part, something held meanwhile -/
theorem tO_ok {fo : Option SE} {k : Option Int → SE} {Q1 : Option Int → Hp → Prop} (eR : FEx R R') (S : Sta K F R' σ H env) (h : atE K W (fun env => bindO fo env k) F R σ env Q)
    (hk : ∀ i env1 F1 H1, Ex F F1 → Sta K F1 R' σ H1 env1 → atE K W (k i) F1 R σ env1 Q → Q1 i H1) : tO K W fo σ H Q1 := by
  cases fo with
  | none => exact hk none env F H (Ex.refl F) S h
  | some f =>
    refine dE_of S (atE_bindR (k := fun b env1 => match pk b env1 with | some (.int i) => k (some i) env1 | _ => none) eR h fun b env1 F1 w H1 e1 S1 rw' q => ?_)
    obtain ⟨r, e, p⟩ := q
    dsimp only at e
    cases hx : pk b env1 with
    | none => rw [hx] at e; cases e
    | some x =>
      rw [hx] at e
      cases x with
      | int i =>
        cases (show Rel K F1 w (.int i) from pk_vw S1 rw' hx)
        exact ⟨i, rfl, hk (some i) env1 F1 H1 e1 S1 ⟨r, e, p⟩⟩
      | _ => cases e
theorem dE_slice {fe : SE} {fl fh : Option SE} (h : dE K W (sliceE fe fl fh) σ H Q) : tSl (rSlAny K) (dE K W fe) (tO K W fl) (tO K W fh) σ H Q := by
  obtain ⟨env, F, R, S, q⟩ := of_dE h
  refine dE_of S (atE_bind q fun a env1 F1 v H1 e1 S1 rv q1 => ?_)
  obtain ⟨R', eR, S1', hd⟩ := hold S1 rv
  refine tO_ok eR S1' q1 fun lo env2 F2 H2 e2 S2 q2 => tO_ok eR S2 q2 fun hi env3 F3 H3 e3 S3 q3 => ?_
  obtain ⟨r, e, p⟩ := q3
  dsimp only at e
  rw [Option.bind_eq_some_iff] at e
  obtain ⟨x, h1, e⟩ := e
  rw [Option.map_eq_some_iff] at e
  obtain ⟨z, h2, rfl⟩ := e
  exact snd_cut (S3.unhold eR) (pk_vw (S3.unhold eR) (unheld (e2.trans e3) eR S3 hd) h1) h2 p
end
section
variable {X : Cx} {W : WX} {e : Expr} {lo hi : Option Expr} {fe f : SE} {fl fh : Option SE} {pos p2 : Pos}
theorem po_dnone : PO X none (tO X.K W none) := po_none
theorem po_dsome {e : Expr} (h : PE X e (dE X.K W f)) : PO X (some e) (tO X.K W (some f)) := po_some h
theorem pd_slice (he : PE X e (dE X.K W fe)) (hl : PO X lo (tO X.K W fl)) (hu : PO X hi (tO X.K W fh)) : PE X (.Subscript e (.Slice lo hi none p2) pos) (dE X.K W (sliceE fe fl fh)) :=
  (pe_slice sl_any he hl hu).wk fun _ _ _ q => dE_slice q
end
end
end Dw
namespace Dw
noncomputable section
open PySem PySem.Spec PyProof.Rows L2
variable [Glo] [Tabs]
def frzs : List RV → Sl → Option (List D × Sl)
  | [], env => some ([], env)
  | a :: as, env => (frz a env).bind fun p => (frzs as p.2).map fun q => (p.1 :: q.1, q.2)
section
variable {K : PySem.W.Frag} {W : WX} {F F' : Hp} {R R' R2 : Fm} {σ : L2.St} {H H' : Hp} {env env' : Sl} {Q : VK}
/-- one held value is frozen: the others stay held -/
theorem frz_held {a : RV} {v : V} {x : D} (eR : FEx R R') (S : Sta K F R' σ H env) (h : Held K F R R' σ v a) (e : frz a env = some (x, env')) :
    ∃ F' R2, Ex F F' ∧ FEx R R2 ∧ Sta K F' R2 σ H env' ∧ Rel K F' v x ∧ ∀ w b, (∀ c c', a = .own c → b = .own c' → w ≠ v) → Held K F R R' σ w b → Held K F' R R2 σ w b := by
  cases a with
  | d y => cases e; exact ⟨F, R', Ex.refl F, eR, S, h, fun _ _ _ q => q⟩
  | cv i =>
    obtain ⟨F', e1, S', r⟩ := frz_ok (a := .cv i) S (show RvOk K F R' σ H env v (.cv i) from h) e
    exact ⟨F', R', e1, eR, S', r, fun w b _ q => q.up e1⟩
  | own c =>
    cases e
    obtain ⟨p, o, rfl, hR, hp, ho⟩ := h
    have hF : F p = none := S.dis p _ hp
    have eF : Ex F (upd F p o) := Ex.new hF
    refine ⟨upd F p o, ⟨fun b => if b = p then none else R'.r b, R'.t, R'.T⟩, eF, ⟨fun b u q => ?_, eR.2⟩, ⟨fun b u q => ?_, fun b u q => ?_, fun b u q => ?_, S.len, fun i x q => ?_, fun i b c q => ?_, S.tag, S.inj, S.xnUp eF, fun P h => (by
      obtain ⟨h1, h2, h3⟩ := S.tab P h
      have n : P ≠ p := fun z => by rw [z, hp] at h3; cases h3
      exact ⟨h1.up eF, by rw [upd_ne n]; exact h2, by show (if P = p then none else R'.r P) = none; rw [if_neg n]; exact h3⟩)⟩, CellOk.rel upd_same (ho.up eF), fun w b hne q => ?_⟩
    · show (if b = p then none else R'.r b) = some u
      rw [if_neg (fun z => by rw [z, hR] at q; cases q)]
      exact eR.1 b u q
    · by_cases hb : b = p
      · subst hb; rw [upd_same] at q; cases q; exact S.fr b _ hp
      · rw [upd_ne hb] at q; exact S.sub b u q
    · have q : (if b = p then none else R'.r b) = some u := q
      by_cases hb : b = p
      · rw [if_pos hb] at q; cases q
      · rw [if_neg hb] at q; exact S.fr b u q
    · have q : (if b = p then none else R'.r b) = some u := q
      by_cases hb : b = p
      · rw [if_pos hb] at q; cases q
      · rw [if_neg hb] at q
        rw [upd_ne hb]; exact S.dis b u q
    · obtain ⟨v, e1, r⟩ := S.dat i x q
      exact ⟨v, e1, r.up eF⟩
    · obtain ⟨q1, u, e2, e3, e4, e5, e6⟩ := S.own i b c q
      have hb : q1 ≠ p := fun z => by rw [z, hp] at e4; cases e4
      exact ⟨q1, u, e2, by rw [upd_ne hb]; exact e3, by show (if q1 = p then none else R'.r q1) = none; rw [if_neg hb]; exact e4, e5, e6.up eF⟩
    · cases b with
      | d y => exact Rel.up eF q
      | cv i => exact q
      | own c' =>
        obtain ⟨p', o', rfl, h1, h2, h3⟩ := q
        have hb : p' ≠ p := fun z => hne _ _ rfl rfl (by rw [z])
        exact ⟨p', o', rfl, h1, by show (if p' = p then none else R'.r p') = some o'; rw [if_neg hb]; exact h2, h3.up eF⟩
theorem frzs_held : ∀ {as : List RV} {vs : List V} {xs : List D} {env env' : Sl} {F : Hp} {R' : Fm}, FEx R R' → Sta K F R' σ H env → HeldAll K F R R' σ vs as → frzs as env = some (xs, env') →
    ∃ F' R2, Ex F F' ∧ FEx R R2 ∧ Sta K F' R2 σ H env' ∧ RelAll K F' vs xs
  | [], [], xs, env, env', F, R', eR, S, _, e => by
    cases e
    exact ⟨F, R', Ex.refl F, eR, S, .nil⟩
  | a :: as, v :: vs, xs, env, env', F, R', eR, S, h, e => by
    have e : ((frz a env).bind fun p => (frzs as p.2).map fun q => (p.1 :: q.1, q.2)) = some (xs, env') := e
    rw [Option.bind_eq_some_iff] at e
    obtain ⟨⟨x, env1⟩, h1, e⟩ := e
    rw [Option.map_eq_some_iff] at e
    obtain ⟨⟨ys, env2⟩, h2, e⟩ := e
    cases e
    obtain ⟨F1, R1, e1, eR1, S1, r1, keep⟩ := frz_held eR S h.1 h1
    have all : ∀ {vs : List V} {as : List RV}, (∀ c, a = .own c → ∀ w b, (w, b) ∈ vs.zip as → ∀ c', b = .own c' → w ≠ v) → HeldAll K F R R' σ vs as → HeldAll K F1 R R1 σ vs as := by
      intro vs
      induction vs with
      | nil => intro as _ h; cases as with
        | nil => trivial
        | cons _ _ => exact h.elim
      | cons w ws ih =>
        intro as hne h
        cases as with
        | nil => exact h.elim
        | cons b bs =>
          exact ⟨keep w b (fun c c' e1 e2 => hne c e1 w b (by simp) c' e2) h.1, h.2.1, ih (fun c e1 w b hm c' e2 => hne c e1 w b (by rw [List.zip_cons_cons]; exact List.mem_cons_of_mem _ hm) c' e2) h.2.2⟩
    obtain ⟨F2, R2, e2, eR2, S2, r2⟩ := frzs_held eR1 S1 (all h.2.1 h.2.2) h2
    exact ⟨F2, R2, e1.trans e2, eR2, S2, .cons (r1.up e2) r2⟩
  | [], _ :: _, _, _, _, _, _, _, _, h, _ => h.elim
  | _ :: _, [], _, _, _, _, _, _, _, h, _ => h.elim
def tupE (fa : SA) : SE := fun env => bindA (fa env) fun as env1 => (frzs as env1).bind fun p => if p.1.length ≤ 100000 then some (.ok (.d (.tup p.1)) p.2) else none
def lstE (fa : SA) : SE := fun env => bindA (fa env) fun as env1 => (frzs as env1).bind fun p => if p.1.length ≤ 100000 then some (.ok (.own (.lst p.1)) p.2) else none
theorem bindA_inv {x : Option ReA} {k : List RV → SE} {r : Re} (h : bindA x k = some r) : (∃ as env1, x = some (.ok as env1) ∧ k as env1 = some r) ∨ ∃ e env1, x = some (.ex e env1) ∧ r = .ex e env1 := by
  cases x with
  | none => cases h
  | some q =>
    cases q with
    | ok a env1 => exact .inl ⟨a, env1, rfl, h⟩
    | ex e env1 => exact .inr ⟨e, env1, rfl, (Option.some.inj h).symm⟩
theorem sz_of {n : Nat} (h : n ≤ 100000) : n ≤ sizeLine := Nat.le_trans h (by decide)
theorem dE_tup {fa : SA} (h : dE K W (tupE fa) σ H Q) : tTup (dA K W fa) σ H Q := by
  obtain ⟨env, F, R, r, S, e, p⟩ := h
  rcases bindA_inv e with ⟨as, env1, h1, h2⟩ | ⟨x, env1, h1, rfl⟩
  · rw [Option.bind_eq_some_iff] at h2
    obtain ⟨⟨xs, env2⟩, h3, h4⟩ := h2
    obtain ⟨c, rfl⟩ := some_if h4
    refine ⟨env, F, R, _, S, h1, fun vs F1 H1 R1 e1 eR S1 hv => ?_⟩
    obtain ⟨F2, R2, e2, eR2, S2, rr⟩ := frzs_held eR S1 hv h3
    exact ⟨sz_of (by rw [rr.len]; exact c), fun q hq => post_tup (S2.unhold eR2) (p.up (e1.trans e2)) hq rr⟩
  · exact ⟨env, F, R, _, S, h1, p⟩
theorem dE_lst {fa : SA} (h : dE K W (lstE fa) σ H Q) : tLst (dA K W fa) σ H Q := by
  obtain ⟨env, F, R, r, S, e, p⟩ := h
  rcases bindA_inv e with ⟨as, env1, h1, h2⟩ | ⟨x, env1, h1, rfl⟩
  · rw [Option.bind_eq_some_iff] at h2
    obtain ⟨⟨xs, env2⟩, h3, h4⟩ := h2
    obtain ⟨c, rfl⟩ := some_if h4
    refine ⟨env, F, R, _, S, h1, fun vs F1 H1 R1 e1 eR S1 hv => ?_⟩
    obtain ⟨F2, R2, e2, eR2, S2, rr⟩ := frzs_held eR S1 hv h3
    exact ⟨sz_of (by rw [rr.len]; exact c), fun q hq => post_new (S2.unhold eR2) (p.up (e1.trans e2)) hq rr⟩
  · exact ⟨env, F, R, _, S, h1, p⟩
end
section
variable {X : Cx} {W : WX} {es : List Expr} {fa : SA} {pos : Pos}
theorem pd_tup {x1} (h : PA X es (dA X.K W fa)) : PE X (.Tuple es x1 pos) (dE X.K W (tupE fa)) := (pe_tup h).wk fun _ _ _ q => dE_tup q
theorem pd_lst (h : PA X es (dA X.K W fa)) : PE X (.List es pos) (dE X.K W (lstE fa)) := (pe_lst h).wk fun _ _ _ q => dE_lst q
end
theorem vw1 {K : PySem.W.Frag} {F H : Hp} {vs : List V} {x : D} (h : VwAll K F H vs [x]) : ∃ v, vs = [v] ∧ Vw K F H v x := by
  match vs, h with
  | [v], h => exact ⟨v, rfl, h.1⟩
  | [], h => exact h.elim
  | _ :: _ :: _, h => exact h.2.elim
def lenD : List D → Option RV
  | [.lst xs] => some (.d (.int xs.length))
  | [.tup xs] => some (.d (.int xs.length))
  | [.str x] => if x.length ≤ sizeLine then some (.d (.int x.length)) else none
  | _ => none
def rLenAny (K : PySem.W.Frag) : List V → Hp → VK → Prop := fun xs H Q => (∃ p ys, xs = [.ref p] ∧ (SqL K H p ys ∨ SqT K H p ys) ∧ Q (.int ys.length) H) ∨ ∃ z, xs = [.str z] ∧ z.length ≤ sizeLine ∧ Q (.int z.length) H
theorem cr_len {X : Cx} : CallR X (.builtin "len") (rLenAny X.K) := CallR.or call_len_seq call_len_str
theorem snd_len {K : PySem.W.Frag} : SndC K lenD (rLenAny K) := by
  intro W F R σ H env Q xs vs z S h e p
  match xs, h, e with
  | [.lst ys], h, e =>
    cases e
    obtain ⟨v, rfl, a, us, rfl, s, r⟩ := vw1 h
    refine .inl ⟨a, us, rfl, .inl s, ?_⟩
    rw [r.len]
    exact post_d S p (.int _)
  | [.tup ys], h, e =>
    cases e
    obtain ⟨v, rfl, hv⟩ := vw1 h
    cases hv with
    | tup s r =>
      refine .inl ⟨_, _, rfl, .inr (ex_t S.sub s), ?_⟩
      rw [r.len]
      exact post_d S p (.int _)
  | [.str x], h, e =>
    obtain ⟨c, rfl⟩ := some_if e
    obtain ⟨v, rfl, hv⟩ := vw1 h
    cases hv
    refine .inr ⟨mk x, rfl, by rw [mk_len]; exact c, ?_⟩
    rw [mk_len]
    exact post_d S p (.int _)
def intC : List D → Option RV
  | [.int i] => some (.d (.int i))
  | [.bl b] => some (.d (.int (b2i b)))
  | _ => none
def listC : List D → Option RV
  | [.lst xs] => some (.own (.lst xs))
  | [.tup xs] => some (.own (.lst xs))
  | _ => none
def rListC (K : PySem.W.Frag) : List V → Hp → VK → Prop := fun xs H Q => ∃ p ys, xs = [.ref p] ∧ (SqL K H p ys ∨ SqT K H p ys) ∧ ∀ l, H l = none → Q (.ref l) (upd H l (.lst ys))
theorem snd_list {K : PySem.W.Frag} : SndC K listC (rListC K) := by
  intro W F R σ H env Q xs vs z S h e p
  match xs, h, e with
  | [.lst ys], h, e =>
    cases e
    obtain ⟨v, rfl, a, us, rfl, s, r⟩ := vw1 h
    exact ⟨a, us, rfl, .inl s, fun q hq => post_new S p hq r⟩
  | [.tup ys], h, e =>
    cases e
    obtain ⟨v, rfl, hv⟩ := vw1 h
    cases hv with
    | tup s r => exact ⟨_, _, rfl, .inr (ex_t S.sub s), fun q hq => post_new S p hq r⟩
def tupleC : List D → Option RV
  | [.lst xs] => some (.d (.tup xs))
  | [.tup xs] => some (.d (.tup xs))
  | _ => none
def rTupleC (K : PySem.W.Frag) : List V → Hp → VK → Prop := fun xs H Q => ∃ p ys, xs = [.ref p] ∧ ((SqL K H p ys ∧ ∀ l, H l = none → Q (.ref l) (upd H l (.tup ys))) ∨ (SqT K H p ys ∧ Q (.ref p) H))
theorem snd_tuple {K : PySem.W.Frag} : SndC K tupleC (rTupleC K) := by
  intro W F R σ H env Q xs vs z S h e p
  match xs, h, e with
  | [.lst ys], h, e =>
    cases e
    obtain ⟨v, rfl, a, us, rfl, s, r⟩ := vw1 h
    exact ⟨a, us, rfl, .inl ⟨s, fun q hq => post_tup S p hq r⟩⟩
  | [.tup ys], h, e =>
    cases e
    obtain ⟨v, rfl, hv⟩ := vw1 h
    cases hv with
    | tup s r => exact ⟨_, _, rfl, .inr ⟨ex_t S.sub s, post_d S p (.tup s r)⟩⟩
def ordC : List D → Option RV
  | [.str [c]] => some (.d (.int c))
  | _ => none
end
end Dw
namespace Dw
noncomputable section
open PySem PySem.Spec PyProof.Rows L2
variable [Glo] [Tabs]
theorem _root_.L2.PS.wk {X : Cx} {e : Stmt} {t u : TS} (h : PS X e t) (w : ∀ En σ H, u En σ H → t En σ H) : PS X e u := ⟨fun pins s σ H En I q => h.run pins s σ H En I (w En σ H q)⟩
theorem _root_.L2.PSs.wk {X : Cx} {e : List Stmt} {t u : TS} (h : PSs X e t) (w : ∀ En σ H, u En σ H → t En σ H) : PSs X e u := ⟨fun pins s σ H En I q => h.run pins s σ H En I (w En σ H q)⟩
inductive Out where
  | nx (env : Sl) | rt (a : RV) (env : Sl) | bk (env : Sl) | ct (env : Sl) | ex (e : Xn) (env : Sl)
abbrev SS := Sl → Option Out
section
variable (K : PySem.W.Frag) (W : WX)
def PostS (En : Ends) (F : Hp) (R : Fm) (r : Out) : Prop :=
  match r with
  | .nx env' => ∀ σ' F' H', Ex F F' → Sta K F' R σ' H' env' → En.nx σ' H'
  | .rt a env' => ∀ v σ' F' H', Ex F F' → Sta K F' R σ' H' env' → RvOk K F' R σ' H' env' v a → En.rt v H'
  | .bk env' => ∀ σ' F' H', Ex F F' → Sta K F' R σ' H' env' → En.bk σ' H'
  | .ct env' => ∀ σ' F' H', Ex F F' → Sta K F' R σ' H' env' → En.ct σ' H'
  | .ex e env' => ∀ cls d σ' F' H', Ex F F' → Sta K F' R σ' H' env' → XnAt K F' e cls d → W cls d σ' H'
def dS (f : SS) : TS := fun En σ H => ∃ env F R r, Sta K F R σ H env ∧ f env = some r ∧ PostS K W En F R r
end
def bindS (x : Option Re) (k : RV → SS) : Option Out :=
  match x with
  | some (.ok a env) => k a env
  | some (.ex e env) => some (.ex e env)
  | none => none
@[simp] theorem bindS_ok {a : RV} {env : Sl} {k : RV → SS} : bindS (some (.ok a env)) k = k a env := rfl
@[simp] theorem bindS_ex {e : Xn} {env : Sl} {k : RV → SS} : bindS (some (.ex e env)) k = some (.ex e env) := rfl
@[simp] theorem bindS_none {k : RV → SS} : bindS none k = none := rfl
theorem bindS_inv {x : Option Re} {k : RV → SS} {r : Out} (h : bindS x k = some r) : (∃ a env1, x = some (.ok a env1) ∧ k a env1 = some r) ∨ ∃ e env1, x = some (.ex e env1) ∧ r = .ex e env1 := by
  cases x with
  | none => cases h
  | some q =>
    cases q with
    | ok a env1 => exact .inl ⟨a, env1, rfl, h⟩
    | ex e env1 => exact .inr ⟨e, env1, rfl, (Option.some.inj h).symm⟩
def skipS : SS := fun env => some (.nx env)
def seqS (f g : SS) : SS := fun env => match f env with
  | some (.nx env1) => g env1
  | o => o
/-- a free slot: it may be written -/
def freeSlot : Option SV → Bool
  | some (.own true _) => false
  | some _ => true
  | none => false
def setSlot (i : Nat) (s : SV) (env : Sl) : Option Sl := if freeSlot env[i]? then some (env.set i s) else none
/-- what a name holds behind a store -/
def storeR (i : Nat) (a : RV) : Sl → Option Sl := fun env => match a with
  | .d x => setSlot i (.d x) env
  | .own c => setSlot i (.own false c) env
  | .cv j => (frz (.cv j) env).bind fun p => setSlot i (.d p.1) p.2
def asgS (i : Nat) (fe : SE) : SS := fun env => bindS (fe env) fun a env1 => (storeR i a env1).map .nx
def exprS (fe : SE) : SS := fun env => bindS (fe env) fun _ env1 => some (.nx env1)
def retS (fe : SE) : SS := fun env => bindS (fe env) fun a env1 => some (.rt a env1)
def retNS : SS := fun env => some (.rt (.d .non) env)
def iteS (fc : SE) (f g : SS) : SS := fun env => bindS (fc env) fun c env1 => match tru c env1 with
  | some true => f env1
  | some false => g env1
  | none => none
def breakS : SS := fun env => some (.bk env)
def contS : SS := fun env => some (.ct env)
section
variable {K : PySem.W.Frag} {W : WX} {F F' : Hp} {R R' : Fm} {σ : L2.St} {H H' : Hp} {env env' : Sl} {En : Ends}
theorem PostS.up (e : Ex F F') : ∀ {r : Out}, PostS K W En F R r → PostS K W En F' R r
  | .nx _, h => fun σ F2 H2 e2 s => h σ F2 H2 (e.trans e2) s
  | .rt _ _, h => fun v σ F2 H2 e2 s q => h v σ F2 H2 (e.trans e2) s q
  | .bk _, h => fun σ F2 H2 e2 s => h σ F2 H2 (e.trans e2) s
  | .ct _, h => fun σ F2 H2 e2 s => h σ F2 H2 (e.trans e2) s
  | .ex _ _, h => fun c d σ F2 H2 e2 s q => h c d σ F2 H2 (e.trans e2) s q
theorem dS_seq {f g : SS} (h : dS K W (seqS f g) En σ H) : tSeq (dS K W f) (dS K W g) En σ H := by
  obtain ⟨env, F, R, r, S, e, p⟩ := h
  have e : (match f env with | some (.nx env1) => g env1 | o => o) = some r := e
  cases h1 : f env with
  | none => rw [h1] at e; cases e
  | some o =>
    rw [h1] at e
    cases o with
    | nx env1 => exact ⟨env, F, R, _, S, h1, fun σ1 F1 H1 e1 S1 => ⟨env1, F1, R, r, S1, e, p.up e1⟩⟩
    | _ => cases e; exact ⟨env, F, R, _, S, h1, p⟩
/-- a slot is written with data -/
theorem Sta.setD {i : Nat} {x : D} {v : V} (S : Sta K F R σ H env) (hf : freeSlot env[i]? = true) (r : Rel K F v x) : Sta K F R (σ.set i (some v)) H (env.set i (.d x)) := by
  have hl : i < env.length := by
    cases h : env[i]? with
    | none => rw [h] at hf; cases hf
    | some s => exact (List.getElem?_eq_some_iff.mp h).1
  have hl' : i < σ.length := by rw [S.len]; exact hl
  have other : ∀ {j : Nat} {b : Bool} {c : C}, (env.set i (.d x))[j]? = some (SV.own b c) → j ≠ i ∧ env[j]? = some (SV.own b c) := fun {j b c} h => by
    by_cases hj : j = i
    · subst hj; rw [List.getElem?_set_self hl] at h; cases h
    · rw [List.getElem?_set_ne (Ne.symm hj)] at h; exact ⟨hj, h⟩
  refine ⟨S.sub, S.fr, S.dis, by rw [List.length_set, List.length_set]; exact S.len, fun j y e => ?_, fun j b c e => ?_, fun j c e => ?_, fun j k bj cj bk ck q h1 h2 h3 h4 => ?_, S.xnSet (Ex.refl F) _ (fun y z => by cases z), S.tab⟩
  · by_cases hj : j = i
    · subst hj
      rw [List.getElem?_set_self hl] at e
      cases e
      exact ⟨v, by rw [List.getElem?_set_self hl'], r⟩
    · rw [List.getElem?_set_ne (Ne.symm hj)] at e ⊢
      exact S.dat j y e
  · obtain ⟨hj, e⟩ := other e
    rw [List.getElem?_set_ne (Ne.symm hj)]
    exact S.own j b c e
  · obtain ⟨hj, e⟩ := other e
    rw [List.getElem?_set_ne (Ne.symm hj)]
    exact S.tag j c e
  · obtain ⟨hj, h1⟩ := other h1
    obtain ⟨hk, h2⟩ := other h2
    rw [List.getElem?_set_ne (Ne.symm hj)] at h3
    rw [List.getElem?_set_ne (Ne.symm hk)] at h4
    exact S.inj j k bj cj bk ck q h1 h2 h3 h4
/-- .. with a thing of one's own -/
theorem Sta.setO {i : Nat} {c : C} {p : Addr} {o : HO} (S : Sta K F R σ H env) (hf : freeSlot env[i]? = true) (hF : F p = none) (hR : R.r p = none) (hp : H p = some o) (hc : CellOk K F p o c) (hs : ∀ (j : Nat) b c', env[j]? = some (SV.own b c') → σ[j]? ≠ some (some (V.ref p))) :
    Sta K F R (σ.set i (some (.ref p))) H (env.set i (.own false c)) := by
  have hl : i < env.length := by
    cases h : env[i]? with
    | none => rw [h] at hf; cases hf
    | some s => exact (List.getElem?_eq_some_iff.mp h).1
  have hl' : i < σ.length := by rw [S.len]; exact hl
  refine ⟨S.sub, S.fr, S.dis, by rw [List.length_set, List.length_set]; exact S.len, fun j y e => ?_, fun j b c' e => ?_, fun j c' e => ?_, fun j k bj cj bk ck q h1 h2 h3 h4 => ?_, S.xnSet (Ex.refl F) _ (fun y z => by cases z), S.tab⟩
  · by_cases hj : j = i
    · subst hj
      rw [List.getElem?_set_self hl] at e
      cases e
    · rw [List.getElem?_set_ne (Ne.symm hj)] at e ⊢
      exact S.dat j y e
  · by_cases hj : j = i
    · subst hj
      rw [List.getElem?_set_self hl] at e
      cases e
      exact ⟨p, o, by rw [List.getElem?_set_self hl'], hF, hR, hp, hc⟩
    · rw [List.getElem?_set_ne (Ne.symm hj)] at e ⊢
      exact S.own j b c' e
  · by_cases hj : j = i
    · subst hj
      rw [List.getElem?_set_self hl] at e
      cases e
    · rw [List.getElem?_set_ne (Ne.symm hj)] at e ⊢
      exact S.tag j c' e
  · by_cases hj : j = i
    · by_cases hk : k = i
      · rw [hj, hk]
      · subst hj
        rw [List.getElem?_set_self hl'] at h3
        cases h3
        rw [List.getElem?_set_ne (Ne.symm hk)] at h2 h4
        exact absurd h4 (hs k bk ck h2)
    · by_cases hk : k = i
      · subst hk
        rw [List.getElem?_set_self hl'] at h4
        cases h4
        rw [List.getElem?_set_ne (Ne.symm hj)] at h1 h3
        exact absurd h3 (hs j bj cj h1)
      · rw [List.getElem?_set_ne (Ne.symm hj)] at h1 h3
        rw [List.getElem?_set_ne (Ne.symm hk)] at h2 h4
        exact S.inj j k bj cj bk ck q h1 h2 h3 h4
theorem setSlot_inv {i : Nat} {s : SV} (h : setSlot i s env = some env') : freeSlot env[i]? = true ∧ env' = env.set i s := by
  obtain ⟨c, e⟩ := some_if h
  exact ⟨c, e.symm⟩
theorem storeR_ok {i : Nat} {a : RV} {v : V} (S : Sta K F R σ H env) (h : RvOk K F R σ H env v a) (e : storeR i a env = some env') : ∃ F', Ex F F' ∧ Sta K F' R (σ.set i (some v)) H env' := by
  cases a with
  | d x =>
    obtain ⟨c, rfl⟩ := setSlot_inv e
    exact ⟨F, Ex.refl F, S.setD c h⟩
  | own c =>
    obtain ⟨cf, rfl⟩ := setSlot_inv e
    obtain ⟨p, o, rfl, hF, hR, hp, hc, hs⟩ := h
    exact ⟨F, Ex.refl F, S.setO cf hF hR hp hc hs⟩
  | cv j =>
    have e : ((frz (.cv j) env).bind fun p => setSlot i (.d p.1) p.2) = some env' := e
    rw [Option.bind_eq_some_iff] at e
    obtain ⟨⟨x, env1⟩, h1, e⟩ := e
    obtain ⟨F', e1, S', r⟩ := frz_ok S h h1
    obtain ⟨c, rfl⟩ := setSlot_inv e
    exact ⟨F', e1, S'.setD c r⟩
theorem dS_bind {f : SE} {k : RV → SS} {Q1 : VK} (h : dS K W (fun env => bindS (f env) k) En σ H)
    (hk : ∀ a env F R v H', Sta K F R σ H' env → RvOk K F R σ H' env v a → (∃ r, k a env = some r ∧ PostS K W En F R r) → Q1 v H') : dE K W f σ H Q1 := by
  obtain ⟨env, F, R, r, S, e, p⟩ := h
  rcases bindS_inv e with ⟨a, env1, h1, h2⟩ | ⟨x, env1, h1, rfl⟩
  · exact ⟨env, F, R, _, S, h1, fun v F1 H1 e1 S1 rv => hk a env1 F1 R v H1 S1 rv ⟨r, h2, p.up e1⟩⟩
  · exact ⟨env, F, R, _, S, h1, fun cls d F' H' e1 S1 hx => p cls d σ F' H' e1 S1 hx⟩
theorem dS_asg {i : Nat} {fe : SE} (h : dS K W (asgS i fe) En σ H) : tAsg (dE K W fe) (gName i) En σ H :=
  dS_bind (k := fun a env1 => (storeR i a env1).map .nx) h fun a env F R v H' S rv q => by
    obtain ⟨r, e, p⟩ := q
    have e : (storeR i a env).map Out.nx = some r := e
    rw [Option.map_eq_some_iff] at e
    obtain ⟨env', h1, rfl⟩ := e
    obtain ⟨F', e1, S'⟩ := storeR_ok S rv h1
    exact p _ F' H' e1 S'
theorem dS_expr {fe : SE} (h : dS K W (exprS fe) En σ H) : tDrop (dE K W fe) En σ H :=
  dS_bind (k := fun _ env1 => some (.nx env1)) h fun a env F R v H' S rv q => by
    obtain ⟨r, e, p⟩ := q
    cases e
    exact p σ F H' (Ex.refl F) S
theorem dS_ret {fe : SE} (h : dS K W (retS fe) En σ H) : tRet (dE K W fe) En σ H :=
  dS_bind (k := fun a env1 => some (.rt a env1)) h fun a env F R v H' S rv q => by
    obtain ⟨r, e, p⟩ := q
    cases e
    exact p v σ F H' (Ex.refl F) S rv
theorem dS_if {fc : SE} {f g : SS} (h : dS K W (iteS fc f g) En σ H) : tIfS (dT K W fc) (dS K W f) (dS K W g) En σ H := by
  obtain ⟨env, F, R, r, S, e, p⟩ := h
  rcases bindS_inv e with ⟨a, env1, h1, h2⟩ | ⟨x, env1, h1, rfl⟩
  · refine ⟨env, F, R, _, S, h1, ?_⟩
    cases ht : tru a env1 with
    | none => rw [ht] at h2; cases h2
    | some b =>
      rw [ht] at h2
      refine ⟨b, ht, fun F1 H1 e1 S1 => ?_⟩
      cases b with
      | true => exact iteT ⟨env1, F1, R, r, S1, h2, p.up e1⟩
      | false => exact iteF ⟨env1, F1, R, r, S1, h2, p.up e1⟩
  · exact ⟨env, F, R, _, S, h1, fun cls d F' H' e1 S1 hx => p cls d σ F' H' e1 S1 hx⟩
end
section
variable {X : Cx} {W : WX} {e : Expr} {st : Stmt} {rest : List Stmt} {fe fc : SE} {f g : SS} {pos : Pos}
theorem pss_dnil : PSs X [] (dS X.K W skipS) := pss_nil.wk fun En σ H q => by
  obtain ⟨env, F, R, r, S, e, p⟩ := q
  cases e
  exact p σ F H (Ex.refl F) S
theorem pss_dcons (h1 : PS X st (dS X.K W f)) (h2 : PSs X rest (dS X.K W g)) : PSs X (st :: rest) (dS X.K W (seqS f g)) := (pss_cons h1 h2).wk fun _ _ _ q => dS_seq q
theorem pss_done (h1 : PS X st (dS X.K W f)) : PSs X [st] (dS X.K W f) := pss_one h1
theorem ps_dset {i : Nat} {x : Str} {pos' : Pos} (hN : X.N.Nodup) (hi : X.N[i]? = some x) (hx : Loc X.env.scope x) (he : PE X e (dE X.K W fe)) (hs : swapsWith e (some (.Name x pos')) pos.line X.env = pure false := by rfl) (hf : X.fn x = true ∨ X.env.scope.names.lookup x = some .local := by first | exact .inl rfl | exact .inr rfl | assumption) :
    PS X (.Assign [.Name x pos'] e pos) (dS X.K W (asgS i fe)) := (ps_set hN hi hx he hs hf).wk fun _ _ _ q => dS_asg q
theorem ps_dexpr (he : PE X e (dE X.K W fe)) (hs : swapsWith e none pos.line X.env = pure false := by rfl) : PS X (.Expr e pos) (dS X.K W (exprS fe)) := (ps_expr he hs).wk fun _ _ _ q => dS_expr q
theorem ps_dret (he : PE X e (dE X.K W fe)) : PS X (.Return (some e) pos) (dS X.K W (retS fe)) := (ps_ret he).wk fun _ _ _ q => dS_ret q
theorem ps_dif {c : Expr} {a b : List Stmt} (hc : PT X c (dT X.K W fc)) (ha : PSs X a (dS X.K W f)) (hb : PSs X b (dS X.K W g)) : PS X (.If c a b pos) (dS X.K W (iteS fc f g)) := (ps_if hc ha hb).wk fun _ _ _ q => dS_if q
end
inductive ReI where
  | ok (xs : List D) (env : Sl) | ex (e : Xn) (env : Sl)
abbrev SI := Sl → Option ReI
/-- it walks xs while the frozen things stand -/
structure Wk (K : PySem.W.Frag) (F : Hp) (J : It) (xs : List D) : Prop where
  goes : ∀ i H, i < xs.length → Ex F H → J.go i H
  stops : ∀ H, Ex F H → J.stop xs.length H
  yields : ∀ {F' : Hp} {R : Fm} {σ : L2.St} {env : Sl} i H v H' x, xs[i]? = some x → Ex F F' → Sta K F' R σ H env → J.yld i H v H' → ∃ F2, Ex F' F2 ∧ Sta K F2 R σ H' env ∧ Rel K F2 v x ∧ Ex H H'
section
variable (K : PySem.W.Frag) (W : WX)
def PostI (F : Hp) (R : Fm) (σ : L2.St) (r : ReI) (Q : It → Hp → Prop) : Prop :=
  match r with
  | .ok xs env' => ∀ J F' H', Ex F F' → Sta K F' R σ H' env' → Wk K F' J xs → Q J H'
  | .ex e env' => ∀ cls d F' H', Ex F F' → Sta K F' R σ H' env' → XnAt K F' e cls d → W cls d σ H'
def dI (f : SI) : TI := fun σ H Q => ∃ env F R r, Sta K F R σ H env ∧ f env = some r ∧ PostI K W F R σ r Q
end
/-- where an item goes: a name, two names, or a tuple of such (nil, cons) -/
inductive Tg where
  | nm (i : Nat) | two (i j : Nat) | nil | cons (g gs : Tg)
def Tg.isT : Tg → Bool
  | .nil => true
  | .cons _ _ => true
  | _ => false
def Tg.ln : Tg → Nat
  | .cons _ gs => gs.ln + 1
  | _ => 0
def putT : Tg → D → Sl → Option Sl
  | .nm i, x, env => setSlot i (.d x) env
  | .two i j, .tup [x, y], env => (setSlot i (.d x) env).bind (setSlot j (.d y))
  | .nil, .tup [], env => some env
  | .cons g gs, .tup (x :: xs), env => if gs.isT = true then (putT g x env).bind (putT gs (.tup xs)) else none
  | _, _, _ => none
def gB (K : PySem.W.Frag) : Tg → TG × TGs
  | .nm i => (gName i, gNil)
  | .two i j => (gTup K 2 (gCons (gName i) (gCons (gName j) gNil)), gNil)
  | .nil => (gTup K 0 gNil, gNil)
  | .cons g gs => (gTup K (gs.ln + 1) (gCons (gB K g).1 (gB K gs).2), gCons (gB K g).1 (gB K gs).2)
def gT (K : PySem.W.Frag) (g : Tg) : TG := (gB K g).1
def loopD (tg : Tg) (body : SS) : List D → SS
  | [], env => some (.nx env)
  | x :: xs, env => (putT tg x env).bind fun env1 => match body env1 with
    | some (.nx e2) => loopD tg body xs e2
    | some (.ct e2) => loopD tg body xs e2
    | some (.bk e2) => some (.nx e2)
    | o => o
def forS (fi : SI) (tg : Tg) (body : SS) : SS := fun env => match fi env with
  | some (.ok xs env1) => loopD tg body xs env1
  | some (.ex e env1) => some (.ex e env1)
  | none => none
section
variable {K : PySem.W.Frag} {W : WX} {F F' : Hp} {R R' : Fm} {σ : L2.St} {H H' : Hp} {env env' : Sl} {En : Ends}
def Tg.subP (p : Nat → Bool) : Tg → Bool
  | .nm i => p i
  | .two i j => p i && p j
  | .nil => true
  | .cons g gs => g.subP p && gs.subP p
theorem Tg.subP_all : ∀ (g : Tg), g.subP (fun _ => true) = true
  | .nm _ => rfl
  | .two _ _ => rfl
  | .nil => rfl
  | .cons g gs => by unfold Tg.subP; rw [Tg.subP_all g, Tg.subP_all gs]; rfl
theorem putT_ln : ∀ {g : Tg} {xs : List D} {env env' : Sl}, g.isT = true → putT g (.tup xs) env = some env' → xs.length = g.ln
  | .nil, [], _, _, _, _ => rfl
  | .nil, _ :: _, _, _, _, e => by simp [putT] at e
  | .cons _ _, [], _, _, _, e => by simp [putT] at e
  | .cons g gs, x :: xs, env, env', _, e => by
    unfold putT at e
    by_cases c : gs.isT = true
    · rw [if_pos c, Option.bind_eq_some_iff] at e
      obtain ⟨env1, _, h2⟩ := e
      rw [List.length_cons, Tg.ln, putT_ln c h2]
    · rw [if_neg c] at e; cases e
theorem putT_inv {p : Nat → Bool} {P : L2.St → Prop} (hp : ∀ i σ w, p i = true → P σ → P (σ.set i w)) : ∀ (tg : Tg),
    (∀ {x : D} {v : V} {Q : L2.St → Hp → Prop} {σ : L2.St} {env env' : Sl}, tg.subP p = true → Sta K F R σ H env → P σ → Rel K F v x → putT tg x env = some env' → (∀ σ', Sta K F R σ' H env' → P σ' → Q σ' H) → (gB K tg).1 v σ H Q)
    ∧ (∀ {xs : List D} {vs : List V} {Q : L2.St → Hp → Prop} {σ : L2.St} {env env' : Sl}, tg.isT = true → tg.subP p = true → Sta K F R σ H env → P σ → RelAll K F vs xs → putT tg (.tup xs) env = some env' → (∀ σ', Sta K F R σ' H env' → P σ' → Q σ' H) → (gB K tg).2 vs σ H Q)
  | .nm i => by
    refine ⟨fun {x v Q σ env env'} hs S hP r e q => ?_, fun h => by cases h⟩
    obtain ⟨c, rfl⟩ := setSlot_inv (show setSlot i (.d x) env = some env' from e)
    exact q _ (S.setD c r) (hp _ _ _ hs hP)
  | .two i j => by
    refine ⟨fun {x v Q σ env env'} hs S hP r e q => ?_, fun h => by cases h⟩
    have hs : (p i && p j) = true := hs
    rw [Bool.and_eq_true] at hs
    match x, e, r with
    | .tup [x, y], e, r =>
      have e : ((setSlot i (.d x) env).bind (setSlot j (.d y))) = some env' := e
      rw [Option.bind_eq_some_iff] at e
      obtain ⟨env1, h1, h2⟩ := e
      obtain ⟨c1, rfl⟩ := setSlot_inv h1
      obtain ⟨c2, rfl⟩ := setSlot_inv h2
      cases r with
      | tup s rr =>
        cases rr with
        | cons r1 rr =>
          cases rr with
          | cons r2 rr =>
            cases rr
            exact ⟨_, _, rfl, ex_t S.sub s, rfl, _, _, rfl, _, _, rfl, rfl, q _ ((S.setD c1 r1).setD c2 r2) (hp _ _ _ hs.2 (hp _ _ _ hs.1 hP))⟩
  | .nil => by
    refine ⟨fun {x v Q σ env env'} hs S hP r e q => ?_, fun {xs vs Q σ env env'} _ hs S hP r e q => ?_⟩
    · match x, e, r with
      | .tup [], e, r =>
        have e : some env = some env' := e
        cases e
        cases r with
        | tup s rr =>
          cases rr
          exact ⟨_, _, rfl, ex_t S.sub s, rfl, rfl, q _ S hP⟩
    · match xs, e, r with
      | [], e, r =>
        have e : some env = some env' := e
        cases e
        cases r
        exact ⟨rfl, q _ S hP⟩
  | .cons g gs => by
    have B : ∀ {xs : List D} {vs : List V} {Q : L2.St → Hp → Prop} {σ : L2.St} {env env' : Sl}, (Tg.cons g gs).subP p = true → Sta K F R σ H env → P σ → RelAll K F vs xs → putT (.cons g gs) (.tup xs) env = some env' → (∀ σ', Sta K F R σ' H env' → P σ' → Q σ' H) → gCons (gB K g).1 (gB K gs).2 vs σ H Q := by
      intro xs vs Q σ env env' hs S hP r e q
      have hs : (g.subP p && gs.subP p) = true := hs
      rw [Bool.and_eq_true] at hs
      match xs, e, r with
      | x :: xs, e, r =>
        have e : (if gs.isT = true then (putT g x env).bind (putT gs (.tup xs)) else none) = some env' := e
        by_cases c : gs.isT = true
        · rw [if_pos c, Option.bind_eq_some_iff] at e
          obtain ⟨env1, h1, h2⟩ := e
          cases r with
          | cons r1 rr => exact ⟨_, _, rfl, (putT_inv hp g).1 hs.1 S hP r1 h1 fun σ1 S1 P1 => (putT_inv hp gs).2 c hs.2 S1 P1 rr h2 q⟩
        · rw [if_neg c] at e; cases e
    refine ⟨fun {x v Q σ env env'} hs S hP r e q => ?_, fun {xs vs Q σ env env'} _ hs S hP r e q => B hs S hP r e q⟩
    match x, e, r with
    | .tup xs, e, r =>
      cases r with
      | tup s rr =>
        exact ⟨_, _, rfl, ex_t S.sub s, by rw [rr.len, putT_ln rfl e]; rfl, B hs S hP rr e q⟩
    | .non, e, _ => cases e
    | .bl _, e, _ => cases e
    | .int _, e, _ => cases e
    | .str _, e, _ => cases e
    | .lst _, e, _ => cases e
    | .dct _ _, e, _ => cases e
    | .dcu _ _, e, _ => cases e
    | .ins _ _ _, e, _ => cases e
theorem putT_ok {tg : Tg} {x : D} {v : V} {Q : L2.St → Hp → Prop} (S : Sta K F R σ H env) (r : Rel K F v x) (e : putT tg x env = some env') (q : ∀ σ', Sta K F R σ' H env' → Q σ' H) : gT K tg v σ H Q :=
  (putT_inv (p := fun _ => true) (P := fun _ => True) (fun _ _ _ _ _ => trivial) tg).1 tg.subP_all S trivial r e fun σ' S' _ => q σ' S'
theorem dS_for {fi : SI} {tg : Tg} {body : SS} (h : dS K W (forS fi tg body) En σ H) : tFor (dI K W fi) (gT K tg) (dS K W body) En σ H := by
  obtain ⟨env, F, R, r, S, e, p⟩ := h
  have e : (match fi env with | some (.ok xs env1) => loopD tg body xs env1 | some (.ex e env1) => some (.ex e env1) | none => none) = some r := e
  cases h1 : fi env with
  | none => rw [h1] at e; cases e
  | some q =>
    rw [h1] at e
    cases q with
    | ex x env1 =>
      cases e
      exact ⟨env, F, R, _, S, h1, fun cls d F' H' e1 S1 hx => p cls d σ F' H' e1 S1 hx⟩
    | ok xs env1 =>
      refine ⟨env, F, R, _, S, h1, fun J F1 H1 e1 S1 wk => ?_⟩
      refine ⟨fun i m σ' H' => m = xs.length - i ∧ i ≤ xs.length ∧ ∃ env' F', Ex F1 F' ∧ Sta K F' R σ' H' env' ∧ loopD tg body (xs.drop i) env' = some r, ⟨xs.length, by simp, Nat.zero_le _, env1, F1, Ex.refl _, S1, e⟩, ?_⟩
      rintro i m σ' H' ⟨rfl, hi, env', F', e2, S2, e3⟩
      by_cases hlt : i < xs.length
      · have hx : xs[i]? = some xs[i] := List.getElem?_eq_getElem hlt
        rw [List.drop_eq_getElem_cons hlt] at e3
        have e3 : ((putT tg xs[i] env').bind fun env1 => match body env1 with
          | some (.nx e2) => loopD tg body (xs.drop (i + 1)) e2
          | some (.ct e2) => loopD tg body (xs.drop (i + 1)) e2
          | some (.bk e2) => some (.nx e2)
          | o => o) = some r := e3
        rw [Option.bind_eq_some_iff] at e3
        obtain ⟨env2, h2, e3⟩ := e3
        refine .inr ⟨wk.goes i H' hlt (e2.trans S2.sub), fun σ2 H2 => ∃ env2 F2, Ex F1 F2 ∧ Sta K F2 R σ2 H2 env2 ∧ loopD tg body (xs.drop (i + 1)) env2 = some r, fun σ2 H2 ⟨env2, F2, e4, S4, e5⟩ => ⟨xs.length - (i + 1), by omega, rfl, hlt, env2, F2, e4, S4, e5⟩, fun v H3 hy => ?_⟩
        obtain ⟨F3, e4, S3, rv, _⟩ := wk.yields i H' v H3 xs[i] hx e2 S2 hy
        refine putT_ok S3 rv h2 fun σ3 S4 => ?_
        cases hb : body env2 with
        | none => rw [hb] at e3; cases e3
        | some o =>
          rw [hb] at e3
          have e5 : Ex F1 F3 := e2.trans e4
          refine ⟨env2, F3, R, o, S4, hb, ?_⟩
          cases o with
          | nx env3 => exact fun σ4 F4 H4 e6 S5 => ⟨env3, F4, e5.trans e6, S5, e3⟩
          | ct env3 => exact fun σ4 F4 H4 e6 S5 => ⟨env3, F4, e5.trans e6, S5, e3⟩
          | bk env3 => cases e3; exact fun σ4 F4 H4 e6 S5 => p σ4 F4 H4 ((e1.trans e5).trans e6) S5
          | rt a env3 => cases e3; exact fun v σ4 F4 H4 e6 S5 rv => p v σ4 F4 H4 ((e1.trans e5).trans e6) S5 rv
          | ex x env3 => cases e3; exact fun cls d σ4 F4 H4 e6 S5 hx => p cls d σ4 F4 H4 ((e1.trans e5).trans e6) S5 hx
      · have hi' : i = xs.length := by omega
        subst hi'
        rw [List.drop_length] at e3
        cases e3
        exact .inl ⟨wk.stops H' (e2.trans S2.sub), p σ' F' H' (e1.trans e2) S2⟩
end
end
end Dw
namespace Dw
noncomputable section
open PySem PySem.Spec PyProof.Rows L2
variable [Glo] [Tabs]
theorem _root_.L2.PI.wk {X : Cx} {tg e : Expr} {t u : TI} (h : PI X tg e t) (w : ∀ σ H Q, u σ H Q → t σ H Q) : PI X tg e u := ⟨fun pins s σ H Q I q => h.run pins s σ H Q I (w σ H Q q)⟩
theorem _root_.L2.PI.or {X : Cx} {tg e : Expr} {t u : TI} (h : PI X tg e t) (h' : PI X tg e u) : PI X tg e (fun σ H R => t σ H R ∨ u σ H R) := ⟨fun pins s σ H Q I q => by
  rcases q with q | q
  · exact h.run pins s σ H Q I q
  · exact h'.run pins s σ H Q I q⟩
def bindI (x : Option Re) (k : RV → SI) : Option ReI :=
  match x with
  | some (.ok a env) => k a env
  | some (.ex e env) => some (.ex e env)
  | none => none
@[simp] theorem bindI_ok {a : RV} {env : Sl} {k : RV → SI} : bindI (some (.ok a env)) k = k a env := rfl
@[simp] theorem bindI_ex {e : Xn} {env : Sl} {k : RV → SI} : bindI (some (.ex e env)) k = some (.ex e env) := rfl
@[simp] theorem bindI_none {k : RV → SI} : bindI none k = none := rfl
theorem bindI_inv {x : Option Re} {k : RV → SI} {r : ReI} (h : bindI x k = some r) : (∃ a env1, x = some (.ok a env1) ∧ k a env1 = some r) ∨ ∃ e env1, x = some (.ex e env1) ∧ r = .ex e env1 := by
  cases x with
  | none => cases h
  | some q =>
    cases q with
    | ok a env1 => exact .inl ⟨a, env1, rfl, h⟩
    | ex e env1 => exact .inr ⟨e, env1, rfl, (Option.some.inj h).symm⟩
def itemsD : D → Option (List D)
  | .lst xs => some xs
  | .tup xs => some xs
  | .str x => some (x.map fun c => .str [c])
  | _ => none
def srcE (fe : SE) : SI := fun env => bindI (fe env) fun a env1 => (frz a env1).bind fun p => (itemsD p.1).map fun xs => .ok xs p.2
section
variable {K : PySem.W.Frag} {W : WX} {F F' : Hp} {R R' : Fm} {σ : L2.St} {H H' : Hp} {env env' : Sl}
theorem wk_list {a : Addr} {vs : List V} {xs : List D} (s : SqL K F a vs) (r : RelAll K F vs xs) : Wk K F (Itl K a) xs := by
  have w : Walk (Itl K a) vs.length (fun H => SqL K H a vs) (YAt vs) := walk_list
  refine ⟨fun i H hi e => w.goes i H (by rw [r.len]; exact hi) (ex_l e s), fun H e => by rw [← r.len]; exact w.stops H (ex_l e s), fun {F' R σ env} i H v H' x hx e S y => ?_⟩
  have hi : i < vs.length := by rw [r.len]; exact (List.getElem?_eq_some_iff.mp hx).1
  obtain ⟨e1, e2⟩ := w.yields i H v H' hi (ex_l (e.trans S.sub) s) y
  subst e1
  obtain ⟨d, e3, rv⟩ := r.get e2
  rw [hx] at e3
  cases e3
  exact ⟨F', Ex.refl F', S, rv.up e, Ex.refl _⟩
theorem wk_tup {a : Addr} {vs : List V} {xs : List D} (s : SqT K F a vs) (r : RelAll K F vs xs) : Wk K F (Itt K a) xs := by
  have w : Walk (Itt K a) vs.length (fun H => SqT K H a vs) (YAt vs) := walk_tup
  refine ⟨fun i H hi e => w.goes i H (by rw [r.len]; exact hi) (ex_t e s), fun H e => by rw [← r.len]; exact w.stops H (ex_t e s), fun {F' R σ env} i H v H' x hx e S y => ?_⟩
  have hi : i < vs.length := by rw [r.len]; exact (List.getElem?_eq_some_iff.mp hx).1
  obtain ⟨e1, e2⟩ := w.yields i H v H' hi (ex_t (e.trans S.sub) s) y
  subst e1
  obtain ⟨d, e3, rv⟩ := r.get e2
  rw [hx] at e3
  cases e3
  exact ⟨F', Ex.refl F', S, rv.up e, Ex.refl _⟩
theorem wk_str {x : List Nat} : Wk K F (Its (mk x)) (x.map fun c => .str [c]) := by
  have w : Walk (Its (mk x)) (mk x).cps.size (fun _ => True) (fun i H v H' => H' = H ∧ ∃ c, (mk x).cps[i]? = some c ∧ v = .str ⟨#[c]⟩) := walk_str
  have hs : (mk x).cps.size = x.length := mk_len x
  refine ⟨fun i H hi e => w.goes i H (by rw [hs]; simpa using hi) trivial, fun H e => by rw [List.length_map, ← hs]; exact w.stops H trivial, fun {F' R σ env} i H v H' y hx e S yl => ?_⟩
  have hi : i < x.length := by simpa using (List.getElem?_eq_some_iff.mp hx).1
  obtain ⟨e1, c, e2, e3⟩ := w.yields i H v H' (by rw [hs]; exact hi) trivial yl
  subst e1
  subst e3
  have e4 : x[i]? = some c := by simpa [mk] using e2
  rw [List.getElem?_map, e4] at hx
  cases hx
  exact ⟨F', Ex.refl F', S, .str [c], Ex.refl _⟩
theorem dI_src {fe : SE} {Q : It → Hp → Prop} (h : dI K W (srcE fe) σ H Q) : iList K (dE K W fe) σ H Q ∨ iTup K (dE K W fe) σ H Q ∨ iStr (dE K W fe) σ H Q := by
  obtain ⟨env, F, R, r, S, e, p⟩ := h
  rcases bindI_inv e with ⟨a, env1, h1, h2⟩ | ⟨x, env1, h1, rfl⟩
  · rw [Option.bind_eq_some_iff] at h2
    obtain ⟨⟨x, env2⟩, h3, h4⟩ := h2
    rw [Option.map_eq_some_iff] at h4
    obtain ⟨xs, h5, rfl⟩ := h4
    have key : ∀ {Q1 : VK}, (∀ v F2 H1, Ex F F2 → Sta K F2 R σ H1 env2 → Rel K F2 v x → Q1 v H1) → dE K W fe σ H Q1 := fun {Q1} k =>
      ⟨env, F, R, _, S, h1, fun v F1 H1 e1 S1 rv => by
        obtain ⟨F2, e2, S2, r2⟩ := frz_ok S1 rv h3
        exact k v F2 H1 (e1.trans e2) S2 r2⟩
    cases x with
    | lst ys =>
      cases h5
      exact .inl (key fun v F2 H1 e2 S2 r2 => by
        cases r2 with
        | lst s rr => exact ⟨_, rfl, ⟨_, ex_l S2.sub s⟩, p _ F2 H1 e2 S2 (wk_list s rr)⟩)
    | tup ys =>
      cases h5
      exact .inr (.inl (key fun v F2 H1 e2 S2 r2 => by
        cases r2 with
        | tup s rr => exact ⟨_, rfl, ⟨_, ex_t S2.sub s⟩, p _ F2 H1 e2 S2 (wk_tup s rr)⟩))
    | str y =>
      cases h5
      exact .inr (.inr (key fun v F2 H1 e2 S2 r2 => by
        cases r2
        exact ⟨mk y, rfl, p _ F2 H1 e2 S2 wk_str⟩))
    | _ => cases h5
  · exact .inl ⟨env, F, R, _, S, h1, p⟩
def bindAI (x : Option ReA) (k : List RV → SI) : Option ReI :=
  match x with
  | some (.ok as env) => k as env
  | some (.ex e env) => some (.ex e env)
  | none => none
@[simp] theorem bindAI_ok {a : List RV} {env : Sl} {k : List RV → SI} : bindAI (some (.ok a env)) k = k a env := rfl
@[simp] theorem bindAI_ex {e : Xn} {env : Sl} {k : List RV → SI} : bindAI (some (.ex e env)) k = some (.ex e env) := rfl
@[simp] theorem bindAI_none {k : List RV → SI} : bindAI none k = none := rfl
theorem bindAI_inv {x : Option ReA} {k : List RV → SI} {r : ReI} (h : bindAI x k = some r) : (∃ a env1, x = some (.ok a env1) ∧ k a env1 = some r) ∨ ∃ e env1, x = some (.ex e env1) ∧ r = .ex e env1 := by
  cases x with
  | none => cases h
  | some q =>
    cases q with
    | ok a env1 => exact .inl ⟨a, env1, rfl, h⟩
    | ex e env1 => exact .inr ⟨e, env1, rfl, (Option.some.inj h).symm⟩
def rng1 : List D → Option (List D)
  | [.int n] => if okP (-(2 ^ 62) ≤ n ∧ n < 2 ^ 62) then some ((List.range n.toNat).map fun i => .int (i : Nat)) else none
  | _ => none
def argsI (g : List D → Option (List D)) (fa : SA) : SI := fun env => bindAI (fa env) fun as env1 => (pks as env1).bind fun xs => (g xs).map fun ys => .ok ys env1
theorem wk_range {lo : Int} {n : Nat} : Wk K F (Itr lo n) ((List.range n).map fun i => .int (lo + (i : Nat))) := by
  have w : Walk (Itr lo n) n (fun _ => True) (YFn fun i => .int (lo + i)) := walk_range
  refine ⟨fun i H hi e => w.goes i H (by simpa using hi) trivial, fun H e => by simpa using w.stops H trivial, fun {F' R σ env} i H v H' y hx e S yl => ?_⟩
  have hi : i < n := by simpa using (List.getElem?_eq_some_iff.mp hx).1
  obtain ⟨e1, e2⟩ := w.yields i H v H' hi trivial yl
  subst e1
  subst e2
  rw [List.getElem?_map, List.getElem?_range hi] at hx
  cases hx
  exact ⟨F', Ex.refl F', S, .int _, Ex.refl _⟩
theorem dI_range1 {fa : SA} {Q : It → Hp → Prop} (h : dI K W (argsI rng1 fa) σ H Q) : iRng1 (dA K W fa) σ H Q := by
  obtain ⟨env, F, R, r, S, e, p⟩ := h
  rcases bindAI_inv e with ⟨as, env1, h1, h2⟩ | ⟨x, env1, h1, rfl⟩
  · rw [Option.bind_eq_some_iff] at h2
    obtain ⟨xs, h3, h4⟩ := h2
    rw [Option.map_eq_some_iff] at h4
    obtain ⟨ys, h5, rfl⟩ := h4
    match xs, h3, h5 with
    | [.int n], h3, h5 =>
      obtain ⟨c, rfl⟩ := some_if h5
      rw [okP_iff] at c
      refine ⟨env, F, R, _, S, h1, fun vs F1 H1 R1 e1 eR S1 hv => ?_⟩
      obtain ⟨v, rfl, hv'⟩ := vw1 (pks_vw eR S1 hv h3)
      cases hv'
      refine ⟨n, rfl, c.1, c.2, p _ F1 H1 e1 (S1.unhold eR) ?_⟩
      have := wk_range (K := K) (F := F1) (lo := 0) (n := n.toNat)
      simpa using this
  · exact ⟨env, F, R, _, S, h1, p⟩
end
section
variable {X : Cx} {W : WX} {tg e : Expr} {fe : SE} {fa : SA} {body : List Stmt} {f : SS} {pos : Pos}
theorem pi_dsrc (h : PE X e (dE X.K W fe)) : PI X tg e (dI X.K W (srcE fe)) := ((pi_list h).or ((pi_tup h).or (pi_str h))).wk fun _ _ _ q => dI_src q
theorem pi_drange1 {a : Expr} {p : Pos} (hm : X.mg "range" = none) (ha : PA X [a] (dA X.K W fa)) (hg : Gl X "range" := by rfl) (hs : starEach [a] X.env = [(false, eval a X.env)] := by rfl) : PI X tg (.Call (.Name "range" p) [a] [] pos) (dI X.K W (argsI rng1 fa)) :=
  (pi_range1 hg hm ha hs).wk fun _ _ _ q => dI_range1 q
theorem ps_dfor {t : Tg} {iter : Expr} {fi : SI} (hp : PassesOwn (model X.prog X.w) X.A X.env X.xe) (hc : X.calm = true) (hi : PI X tg iter (dI X.K W fi)) (hg : PG X tg (gT X.K t)) (hb : PSs X body (dS X.K W f))
    (hs : ∀ x, foldedSetIterable iter X.env x = pure x := by intro _; rfl) : PS X (.For tg iter body [] pos) (dS X.K W (forS fi t f)) := (ps_for hp hc hi hg hb hs).wk fun _ _ _ q => dS_for q
theorem pg_dnm {i : Nat} {x : Str} {p : Pos} (hN : X.N.Nodup) (hi : X.N[i]? = some x) (hx : Loc X.env.scope x) (hf : X.fn x = true ∨ X.env.scope.names.lookup x = some .local := by first | exact .inl rfl | exact .inr rfl | assumption) : PG X (.Name x p) (gT X.K (.nm i)) := pg_name hN hi hx hf
theorem pg_dtwo {i j : Nat} {x y : Str} {p1 p2 p3 : Pos} {k : Nat} (hN : X.N.Nodup) (hc : X.calm = true) (hi : X.N[i]? = some x) (hx : Loc X.env.scope x) (hj : X.N[j]? = some y) (hy : Loc X.env.scope y)
    (hf : X.fn x = true ∨ X.env.scope.names.lookup x = some .local := by first | exact .inl rfl | exact .inr rfl | assumption) (hf2 : X.fn y = true ∨ X.env.scope.names.lookup y = some .local := by first | exact .inl rfl | exact .inr rfl | assumption)
    (hs1 : (assignEach [.Name x p1, .Name y p2] X.env).map (·.2) = assign (.Name x p1) X.env :: (assignEach [.Name y p2] X.env).map (·.2) := by rfl)
    (hs2 : (assignEach [.Name y p2] X.env).map (·.2) = assign (.Name y p2) X.env :: (assignEach [] X.env).map (·.2) := by rfl)
    (hn : (assignEach [.Name x p1, .Name y p2] X.env).length = 2 := by rfl) (hst : (assignEach [.Name x p1, .Name y p2] X.env).findIdx? (·.1) = none := by rfl) : PG X (.Tuple [.Name x p1, .Name y p2] k p3) (gT X.K (.two i j)) :=
  pg_tup hc (pgs_cons (pg_name hN hi hx hf) (pgs_cons (pg_name hN hj hy hf2) pgs_nil hs2) hs1) hn hst
end
abbrev W0 : WX := fun _ _ _ _ => False
/-- the block's own names are empty ahead of each turn -/
def clr : List Nat → Sl → Sl
  | [], env => env
  | i :: is, env => (clr is env).set i .un
def keepD : Option SV → SV
  | some (.d x) => .d x
  | _ => .un
/-- .. and behind it what stood there before -/
def rst : List Nat → Sl → Sl → Sl
  | [], _, env' => env'
  | i :: is, env, env' => (rst is env env').set i (keepD env[i]?)
def bindTD (ft : Option SE) (env : Sl) (k : Bool → Sl → Option (List D × Sl)) : Option (List D × Sl) :=
  match ft with
  | none => k true env
  | some f => match f env with
    | some (.ok a env2) => (tru a env2).bind fun b => k b env2
    | _ => none
def eltD (fe : SE) (env : Sl) : Option (D × Sl) := match fe env with
  | some (.ok a env3) => frz a env3
  | _ => none
def compD (vs : List Nat) (tg : Tg) (ft : Option SE) (fe : SE) : List D → List D → Sl → Option (List D × Sl)
  | [], acc, env => some (acc, env)
  | x :: xs, acc, env => (putT tg x env).bind fun env1 => bindTD ft env1 fun b env2 => match b with
    | true => (eltD fe env2).bind fun p => if acc.length < 100000 then compD vs tg ft fe xs (acc ++ [p.1]) (clr vs p.2) else none
    | false => compD vs tg ft fe xs acc (clr vs env2)
def compE (vs : List Nat) (fi : SI) (tg : Tg) (ft : Option SE) (fe : SE) : SE := fun env => match fi env with
  | some (.ok xs env1) => (compD vs tg ft fe xs [] (clr vs env1)).map fun p => .ok (.own (.lst p.1)) (rst vs env1 p.2)
  | some (.ex e env1) => some (.ex e env1)
  | none => none
def Tg.sub (vs : List Nat) (g : Tg) : Bool := g.subP fun i => vs.contains i
section
theorem clr_get : ∀ (vs : List Nat) (env : Sl) (k : Nat), k ∉ vs → (clr vs env)[k]? = env[k]?
  | [], _, _, _ => rfl
  | i :: is, env, k, h => by
    rw [List.mem_cons, not_or] at h
    unfold clr
    rw [List.getElem?_set_ne (Ne.symm h.1)]
    exact clr_get is env k h.2
theorem clr_len : ∀ (vs : List Nat) (env : Sl), (clr vs env).length = env.length
  | [], _ => rfl
  | i :: is, env => by unfold clr; rw [List.length_set, clr_len is env]
theorem clr_in : ∀ (vs : List Nat) (env : Sl) (k : Nat) (s : SV), k ∈ vs → (clr vs env)[k]? = some s → s = .un
  | i :: is, env, k, s, h, e => by
    unfold clr at e
    by_cases hk : k = i
    · subst hk
      by_cases hl : k < (clr is env).length
      · rw [List.getElem?_set_self hl] at e
        cases e
        rfl
      · rw [List.getElem?_eq_none (by rw [List.length_set]; omega)] at e
        cases e
    · rw [List.getElem?_set_ne (Ne.symm hk)] at e
      rcases List.mem_cons.mp h with h | h
      · exact absurd h hk
      · exact clr_in is env k s h e
theorem rst_get : ∀ (vs : List Nat) (env env' : Sl) (k : Nat), k ∉ vs → (rst vs env env')[k]? = env'[k]?
  | [], _, _, _, _ => rfl
  | i :: is, env, env', k, h => by
    rw [List.mem_cons, not_or] at h
    unfold rst
    rw [List.getElem?_set_ne (Ne.symm h.1)]
    exact rst_get is env env' k h.2
theorem rst_len : ∀ (vs : List Nat) (env env' : Sl), (rst vs env env').length = env'.length
  | [], _, _ => rfl
  | i :: is, env, env' => by unfold rst; rw [List.length_set, rst_len is env env']
theorem rst_in : ∀ (vs : List Nat) (env env' : Sl) (k : Nat) (s : SV), k ∈ vs → (rst vs env env')[k]? = some s → s = keepD env[k]?
  | i :: is, env, env', k, s, h, e => by
    unfold rst at e
    by_cases hk : k = i
    · subst hk
      by_cases hl : k < (rst is env env').length
      · rw [List.getElem?_set_self hl] at e
        cases e
        rfl
      · rw [List.getElem?_eq_none (by rw [List.length_set]; omega)] at e
        cases e
    · rw [List.getElem?_set_ne (Ne.symm hk)] at e
      rcases List.mem_cons.mp h with h | h
      · exact absurd h hk
      · exact rst_in is env env' k s h e
theorem wipe_get : ∀ (vs : List Nat) (σ : L2.St) (k : Nat), k ∉ vs → (wipe σ vs)[k]? = σ[k]?
  | [], _, _, _ => rfl
  | i :: is, σ, k, h => by
    rw [List.mem_cons, not_or] at h
    unfold wipe
    rw [List.getElem?_set_ne (Ne.symm h.1)]
    exact wipe_get is σ k h.2
theorem wipe_in : ∀ (vs : List Nat) (σ : L2.St) (k : Nat), k ∈ vs → k < σ.length → (wipe σ vs)[k]? = some none
  | i :: is, σ, k, h, hl => by
    unfold wipe
    by_cases hk : k = i
    · subst hk
      rw [List.getElem?_set_self (by rw [wipe_length]; exact hl)]
    · rw [List.getElem?_set_ne (Ne.symm hk)]
      rcases List.mem_cons.mp h with h | h
      · exact absurd h hk
      · exact wipe_in is σ k h hl
theorem wipe_eq {vs : List Nat} {σ σ' : L2.St} (hl : σ'.length = σ.length) (h : ∀ k, k ∉ vs → σ'[k]? = σ[k]?) : wipe σ' vs = wipe σ vs := by
  apply List.ext_getElem?
  intro k
  by_cases hk : k ∈ vs
  · by_cases hk2 : k < σ.length
    · rw [wipe_in vs σ k hk hk2, wipe_in vs σ' k hk (by omega)]
    · rw [List.getElem?_eq_none (by rw [wipe_length]; omega), List.getElem?_eq_none (by rw [wipe_length]; omega)]
  · rw [wipe_get vs σ' k hk, wipe_get vs σ k hk, h k hk]
variable {K : PySem.W.Frag} {W : WX} {F F' : Hp} {R R' : Fm} {σ : L2.St} {H H' : Hp} {env env' : Sl}
theorem Sta.wipe (vs : List Nat) (S : Sta K F R σ H env) : Sta K F R (L2.wipe σ vs) H (clr vs env) := by
  have un : ∀ {i : Nat} {s : SV}, (clr vs env)[i]? = some s → s ≠ .un → i ∉ vs ∧ env[i]? = some s := fun {i s} h hs => by
    by_cases hi : i ∈ vs
    · exact absurd (clr_in vs env i s hi h) hs
    · rw [clr_get vs env i hi] at h
      exact ⟨hi, h⟩
  refine ⟨S.sub, S.fr, S.dis, by rw [wipe_length, clr_len]; exact S.len, fun i x e => ?_, fun i b c e => ?_, fun i c e => ?_, fun i j bi ci bj cj p h1 h2 h3 h4 => ?_, fun i x q => (by
    obtain ⟨hi, q⟩ := un q (by simp)
    rw [wipe_get vs σ i hi]
    exact S.xn i x q), S.tab⟩
  · obtain ⟨hi, e⟩ := un e (by simp)
    rw [wipe_get vs σ i hi]
    exact S.dat i x e
  · obtain ⟨hi, e⟩ := un e (by simp)
    rw [wipe_get vs σ i hi]
    exact S.own i b c e
  · obtain ⟨hi, e⟩ := un e (by simp)
    rw [wipe_get vs σ i hi]
    exact S.tag i c e
  · obtain ⟨hi, h1⟩ := un h1 (by simp)
    obtain ⟨hj, h2⟩ := un h2 (by simp)
    rw [wipe_get vs σ i hi] at h3
    rw [wipe_get vs σ j hj] at h4
    exact S.inj i j bi ci bj cj p h1 h2 h3 h4
/-- the block's names cleared once more: any slots that agree outside them -/
theorem Sta.rewipe {σ2 : L2.St} (vs : List Nat) (S : Sta K F R σ2 H env) (h : L2.wipe σ2 vs = L2.wipe σ vs) : Sta K F R (L2.wipe σ vs) H (clr vs env) := by
  rw [← h]
  exact S.wipe vs
theorem Sta.unwipe {vs : List Nat} {F0 : Hp} {R0 : Fm} {H0 : Hp} (S0 : Sta K F0 R0 σ H0 env) (e : Ex F0 F) (S : Sta K F R (L2.wipe σ vs) H env') : Sta K F R σ H (rst vs env env') := by
  have un : ∀ {i : Nat} {s : SV}, (rst vs env env')[i]? = some s → (i ∉ vs ∧ env'[i]? = some s) ∨ (i ∈ vs ∧ s = keepD env[i]?) := fun {i s} h => by
    by_cases hi : i ∈ vs
    · exact .inr ⟨hi, rst_in vs env env' i s hi h⟩
    · rw [rst_get vs env env' i hi] at h
      exact .inl ⟨hi, h⟩
  have kd : ∀ {o : Option SV} {x : D}, keepD o = .d x → o = some (.d x) := fun {o x} h => by
    unfold keepD at h
    split at h
    · cases h; rfl
    · cases h
  have ko : ∀ {o : Option SV} {b : Bool} {c : C}, keepD o ≠ .own b c := fun {o b c} h => by
    unfold keepD at h
    split at h <;> cases h
  refine ⟨S.sub, S.fr, S.dis, by rw [rst_len, ← S.len, wipe_length], fun i x q => ?_, fun i b c q => ?_, fun i c q => ?_, fun i j bi ci bj cj p h1 h2 h3 h4 => ?_, fun i x q => (by
    rcases un q with ⟨hi, q⟩ | ⟨hi, q⟩
    · have := S.xn i x q
      rw [wipe_get vs σ i hi] at this
      exact this
    · unfold keepD at q
      split at q <;> cases q), S.tab⟩
  · rcases un q with ⟨hi, q⟩ | ⟨hi, q⟩
    · have := S.dat i x q
      rw [wipe_get vs σ i hi] at this
      exact this
    · obtain ⟨v, e1, r⟩ := S0.dat i x (kd q.symm)
      exact ⟨v, e1, r.up e⟩
  · rcases un q with ⟨hi, q⟩ | ⟨hi, q⟩
    · have := S.own i b c q
      rw [wipe_get vs σ i hi] at this
      exact this
    · exact absurd q.symm ko
  · rcases un q with ⟨hi, q⟩ | ⟨hi, q⟩
    · have := S.tag i c q
      rw [wipe_get vs σ i hi] at this
      exact this
    · exact absurd q.symm ko
  · rcases un h1 with ⟨hi, h1⟩ | ⟨hi, q⟩
    · rcases un h2 with ⟨hj, h2⟩ | ⟨hj, q⟩
      · exact S.inj i j bi ci bj cj p h1 h2 (by rw [wipe_get vs σ i hi]; exact h3) (by rw [wipe_get vs σ j hj]; exact h4)
      · exact absurd q.symm ko
    · exact absurd q.symm ko
/-- the target is stored within the block's own names -/
theorem putT_in {tg : Tg} {vs : List Nat} {x : D} {v : V} {Q : L2.St → Hp → Prop} (hv : tg.sub vs = true) (S : Sta K F R (L2.wipe σ vs) H env) (r : Rel K F v x) (e : putT tg x env = some env') (q : ∀ σ', Sta K F R σ' H env' → L2.wipe σ' vs = L2.wipe σ vs → Q σ' H) : gT K tg v (L2.wipe σ vs) H Q := by
  have ww : ∀ {i : Nat} {w : Option V} {σ2 : L2.St}, i ∈ vs → L2.wipe σ2 vs = L2.wipe σ vs → L2.wipe (σ2.set i w) vs = L2.wipe σ vs := fun {i w σ2} hi h => by
    rw [← h]
    exact wipe_eq (by rw [List.length_set]) fun k hk => by rw [List.getElem?_set_ne (fun z => hk (by subst z; exact hi))]
  have w0 : L2.wipe (L2.wipe σ vs) vs = L2.wipe σ vs := wipe_eq (wipe_length σ vs) fun k hk => wipe_get vs σ k hk
  exact (putT_inv (p := fun i => vs.contains i) (P := fun σ' => L2.wipe σ' vs = L2.wipe σ vs) (fun i σ2 w hi h => ww (by simpa using hi) h) tg).1 hv S w0 r e q
def tTD (K : PySem.W.Frag) : Option SE → TT
  | none => tYes
  | some f => dT K W0 f
theorem dE_comp {vs : List Nat} {fi : SI} {tg : Tg} {ft : Option SE} {fe : SE} {Q : VK} (hv : tg.sub vs = true) (h : dE K W (compE vs fi tg ft fe) σ H Q) : tLc (dI K W fi) (gT K tg) (tTD K ft) (dE K W0 fe) vs σ H Q := by
  obtain ⟨env, F, R, r, S, e, p⟩ := h
  have e : (match fi env with
    | some (.ok xs env1) => (compD vs tg ft fe xs [] (clr vs env1)).map fun p => Re.ok (.own (.lst p.1)) (rst vs env1 p.2)
    | some (.ex e env1) => some (.ex e env1)
    | none => none) = some r := e
  cases h1 : fi env with
  | none => rw [h1] at e; cases e
  | some q =>
    rw [h1] at e
    cases q with
    | ex x env1 => cases e; exact ⟨env, F, R, _, S, h1, p⟩
    | ok xs env1 =>
      dsimp only at e
      rw [Option.map_eq_some_iff] at e
      obtain ⟨⟨ys, env9⟩, h2, rfl⟩ := e
      refine ⟨env, F, R, _, S, h1, fun J F1 H1 e1 S1 wk L hL => ?_⟩
      -- between the turns: the list at L holds acc
      refine ⟨fun i m H' => m = xs.length - i ∧ i ≤ xs.length ∧ ∃ env' F' acc avs, Ex F1 F' ∧ Sta K F' R (L2.wipe σ vs) H' env' ∧ H' L = some (.lst avs) ∧ F' L = none ∧ R.r L = none ∧ (∀ (j : Nat) b c', env'[j]? = some (SV.own b c') → (L2.wipe σ vs)[j]? ≠ some (some (V.ref L))) ∧ RelAll K F' avs acc ∧ compD vs tg ft fe (xs.drop i) acc env' = some (ys, env9),
        ⟨xs.length, by simp, Nat.zero_le _, clr vs env1, F1, [], [], Ex.refl _, (S1.wipe vs).freshH hL, upd_same, S1.freeF hL, S1.freeR hL, fun j b c' q z => ?_, .nil, h2⟩, ?_⟩
      · obtain ⟨p', o, z1, _, _, z4, _⟩ := (S1.wipe vs).own j b c' q
        rw [z] at z1
        cases z1
        rw [hL] at z4
        cases z4
      · rintro i m H' ⟨rfl, hi, env', F', acc, avs, e2, S2, hL2, hF2, hR2, hs2, ra, e3⟩
        by_cases hlt : i < xs.length
        · have hx : xs[i]? = some xs[i] := List.getElem?_eq_getElem hlt
          rw [List.drop_eq_getElem_cons hlt] at e3
          have e3 : ((putT tg xs[i] env').bind fun env1 => bindTD ft env1 fun b env2 => match b with
            | true => (eltD fe env2).bind fun p => if acc.length < 100000 then compD vs tg ft fe (xs.drop (i + 1)) (acc ++ [p.1]) (clr vs p.2) else none
            | false => compD vs tg ft fe (xs.drop (i + 1)) acc (clr vs env2)) = some (ys, env9) := e3
          rw [Option.bind_eq_some_iff] at e3
          obtain ⟨env2, h3, e3⟩ := e3
          have S2' := S2.hold hF2 hL2 (fun _ z => by cases z) hs2
          have eR : FEx R ⟨upd R.r L (.lst avs), R.t, R.T⟩ := ⟨Ex.new hR2, rfl⟩
          refine .inr ⟨wk.goes i H' hlt (e2.trans S2.sub), fun H2 => ∃ env' F' acc avs, Ex F1 F' ∧ Sta K F' R (L2.wipe σ vs) H2 env' ∧ H2 L = some (.lst avs) ∧ F' L = none ∧ R.r L = none ∧ (∀ (j : Nat) b c', env'[j]? = some (SV.own b c') → (L2.wipe σ vs)[j]? ≠ some (some (V.ref L))) ∧ RelAll K F' avs acc ∧ compD vs tg ft fe (xs.drop (i + 1)) acc env' = some (ys, env9),
            fun H2 ⟨env', F', acc, avs, q⟩ => ⟨xs.length - (i + 1), by omega, rfl, hlt, env', F', acc, avs, q⟩, fun v H3 hy => ?_⟩
          obtain ⟨F3, e4, S3, rv, eH⟩ := wk.yields i H' v H3 xs[i] hx e2 S2' hy
          refine putT_in hv S3 rv h3 fun σ3 S4 hw => ⟨hw, ?_⟩
          -- what holds of the list through the turn
          have stay : ∀ {F5 H5 : Hp} {env5 : Sl}, Sta K F5 ⟨upd R.r L (.lst avs), R.t, R.T⟩ σ3 H5 env5 → H5 L = some (.lst avs) ∧ F5 L = none ∧ Sta K F5 ⟨upd R.r L (.lst avs), R.t, R.T⟩ (L2.wipe σ vs) H5 (clr vs env5) := fun {F5 H5 env5} S5 =>
            ⟨S5.fr L _ upd_same, S5.dis L _ upd_same, S5.rewipe vs hw⟩
          have apart : ∀ {F5 H5 : Hp} {env5 : Sl}, Sta K F5 ⟨upd R.r L (.lst avs), R.t, R.T⟩ (L2.wipe σ vs) H5 env5 → ∀ (j : Nat) b c', env5[j]? = some (SV.own b c') → (L2.wipe σ vs)[j]? ≠ some (some (V.ref L)) := fun {F5 H5 env5} S5 j b c' q z => by
            obtain ⟨p', o, z1, _, z3, _⟩ := S5.own j b c' q
            rw [z] at z1
            cases z1
            have z3 : upd R.r L (.lst avs) L = none := z3
            rw [upd_same] at z3
            cases z3
          have elt : ∀ (env3 : Sl) (F5 H5 : Hp), Ex F3 F5 → Sta K F5 ⟨upd R.r L (.lst avs), R.t, R.T⟩ σ3 H5 env3 → ((eltD fe env3).bind fun p => if acc.length < 100000 then compD vs tg ft fe (xs.drop (i + 1)) (acc ++ [p.1]) (clr vs p.2) else none) = some (ys, env9) →
              dE K W0 fe σ3 H5 fun y H4 => ∃ acc, H4 L = some (.lst acc) ∧ acc.length < sizeLine ∧ ∃ env' F' acc' avs, Ex F1 F' ∧ Sta K F' R (L2.wipe σ vs) (upd H4 L (.lst (acc ++ [y]))) env' ∧ (upd H4 L (.lst (acc ++ [y]))) L = some (.lst avs) ∧ F' L = none ∧ R.r L = none ∧ (∀ (j : Nat) b c', env'[j]? = some (SV.own b c') → (L2.wipe σ vs)[j]? ≠ some (some (V.ref L))) ∧ RelAll K F' avs acc' ∧ compD vs tg ft fe (xs.drop (i + 1)) acc' env' = some (ys, env9) := fun env3 F5 H5 e5 S5 e6 => by
            rw [Option.bind_eq_some_iff] at e6
            obtain ⟨⟨y, env4⟩, h4, e6⟩ := e6
            have hle : acc.length < 100000 := by
              by_cases c : acc.length < 100000
              · exact c
              · rw [if_neg c] at e6; cases e6
            rw [if_pos hle] at e6
            unfold eltD at h4
            cases h5 : fe env3 with
            | none => rw [h5] at h4; cases h4
            | some r5 =>
              rw [h5] at h4
              cases r5 with
              | ex _ _ => cases h4
              | ok a env5 =>
                refine ⟨env3, F5, ⟨upd R.r L (.lst avs), R.t, R.T⟩, _, S5, h5, fun w F6 H6 e7 S6 rw' => ?_⟩
                obtain ⟨F7, e8, S7, r7⟩ := frz_ok S6 rw' h4
                obtain ⟨k1, k2, k3⟩ := stay S7
                have eF : Ex F' F7 := ((e4.trans e5).trans e7).trans e8
                refine ⟨avs, k1, Nat.lt_of_lt_of_le (by rw [ra.len]; exact hle) (by decide : 100000 ≤ sizeLine), clr vs env4, F7, acc ++ [y], avs ++ [w], e2.trans eF, ?_, upd_same, k2, hR2, fun j b c' q => apart k3 j b c' q, (ra.up eF).app (.cons r7 .nil), e6⟩
                have S8 := k3.unhold eR
                have ap := apart k3
                refine ⟨fun b u q => ?_, fun b u q => ?_, S8.dis, S8.len, S8.dat, fun j b c q => ?_, S8.tag, S8.inj, S8.xn, fun P h => ?_⟩
                rotate_right
                · obtain ⟨⟨ps, h1, h2⟩, h3⟩ := S8.tab P h
                  have hb : P ≠ L := fun z => by rw [z, k1] at h1; cases h1
                  exact ⟨⟨ps, by rw [upd_ne hb]; exact h1, h2⟩, h3⟩
                · have hb : b ≠ L := fun z => by rw [z, k2] at q; cases q
                  rw [upd_ne hb]; exact S8.sub b u q
                · have hb : b ≠ L := fun z => by rw [z, hR2] at q; cases q
                  rw [upd_ne hb]; exact S8.fr b u q
                · obtain ⟨p', o, z1, z2, z3, z4, z5⟩ := S8.own j b c q
                  have hb : p' ≠ L := fun z => ap j b c q (by rw [z1, z])
                  exact ⟨p', o, z1, z2, z3, by rw [upd_ne hb]; exact z4, z5⟩
          cases ft with
          | none =>
            exact elt env2 F3 H3 (Ex.refl _) S4 e3
          | some f =>
            have e3 : (match f env2 with
              | some (.ok a env2) => (tru a env2).bind fun b => match b with
                | true => (eltD fe env2).bind fun p => if acc.length < 100000 then compD vs tg (some f) fe (xs.drop (i + 1)) (acc ++ [p.1]) (clr vs p.2) else none
                | false => compD vs tg (some f) fe (xs.drop (i + 1)) acc (clr vs env2)
              | _ => none) = some (ys, env9) := e3
            cases h6 : f env2 with
            | none => rw [h6] at e3; cases e3
            | some r6 =>
              rw [h6] at e3
              cases r6 with
              | ex _ _ => cases e3
              | ok a env3 =>
                dsimp only at e3
                rw [Option.bind_eq_some_iff] at e3
                obtain ⟨b, h7, e3⟩ := e3
                refine ⟨env2, F3, ⟨upd R.r L (.lst avs), R.t, R.T⟩, _, S4, h6, b, h7, fun F5 H5 e5 S5 => ?_⟩
                cases b with
                | true => exact iteT (elt env3 F5 H5 e5 S5 e3)
                | false =>
                  refine iteF ?_
                  obtain ⟨k1, k2, k3⟩ := stay S5
                  have eF : Ex F' F5 := e4.trans e5
                  exact ⟨clr vs env3, F5, acc, avs, e2.trans eF, k3.unhold eR, k1, k2, hR2, apart k3, ra.up eF, e3⟩
        · have hi' : i = xs.length := by omega
          subst hi'
          rw [List.drop_length] at e3
          cases e3
          refine .inl ⟨wk.stops H' (e2.trans S2.sub), p _ F' H' (e1.trans e2) (Sta.unwipe S1 e2 S2) ⟨L, _, rfl, hF2, hR2, hL2, ⟨avs, rfl, ra⟩, fun j b c' q z => ?_⟩⟩
          by_cases hj : j ∈ vs
          · have := rst_in vs env1 env9 j _ hj q
            unfold keepD at this
            split at this <;> cases this
          · rw [rst_get vs env1 env9 j hj] at q
            exact hs2 j b c' q (by rw [wipe_get vs σ j hj]; exact z)
end
end
end Dw
namespace Dw
noncomputable section
open PySem PySem.Spec PyProof.Rows L2
variable [Glo] [Tabs]
section
variable {X : Cx} {W : WX} {f : SE}
theorem pts_dnil : PTs X [] (tTD X.K none) := pts_nil
theorem pts_done {c : Expr} (h : PT X c (dT X.K W0 f)) : PTs X [c] (tTD X.K (some f)) := pts_one h
theorem pd_comp {elt tg iter : Expr} {ifs : List Expr} {scope : Scope} {own : List (Str × Nat)} {pos : Pos} {fi : SI} {t : Tg} {ft : Option SE} {fe : SE} (hc : X.calm = true) (hN : X.N.Nodup) (ok : BlkOk X.N X.env.scope scope own) (hv : t.sub (own.map (·.2)) = true) (hi : PI X tg iter (dI X.K W fi))
    (hg : ∀ (s : Shared) (H : Hp) (C : Addr) (cl : List (Str × Addr)) (fp : List Addr), PG (X.blk s H scope (compEnvC scope cl C X.env) fp) tg (gT X.K t)) (ht : ∀ (s : Shared) (H : Hp) (C : Addr) (cl : List (Str × Addr)) (fp : List Addr), PTs (X.blk s H scope (compEnvC scope cl C X.env) fp) ifs (tTD X.K ft))
    (he : ∀ (s : Shared) (H : Hp) (C : Addr) (cl : List (Str × Addr)) (fp : List Addr), PE (X.blk s H scope (compEnvC scope cl C X.env) fp) elt (dE X.K W0 fe)) (hs : ∀ x, foldedSetIterable iter X.env x = pure x := by intro _; rfl) :
    PE X (.ListComp elt [⟨tg, iter, ifs, 0⟩] scope pos) (dE X.K W (compE (own.map (·.2)) fi t ft fe)) := (pe_lc hc hN hi ok hg ht he hs).wk fun _ _ _ q => dE_comp hv q
end
inductive FR where
  | ok (a : RV) (outs : List SV) | ex (e : Xn) (outs : List SV)
def resS : Option SV → Option RV
  | some (.own false c) => some (.own c)
  | some (.d x) => some (.d x)
  | _ => none
def resV (a : RV) (env : Sl) : Option RV := match a with
  | .d x => some (.d x)
  | .own c => some (.own c)
  | .cv i => resS env[i]?
def backs : List SV → Sl → Option (List SV)
  | [], _ => some []
  | .own true _ :: as, .own true c :: es => (backs as es).map (.own true c :: ·)
  | .d x :: as, _ :: es => (backs as es).map (.d x :: ·)
  | _, _ => none
def runF (n : Nat) (body : SS) (args : List SV) : Option FR := match body (args ++ List.replicate n .un) with
  | some (.rt a env) => (resV a env).bind fun a' => (backs args env).map (FR.ok a')
  | some (.nx env) => (backs args env).map (FR.ok (.d .non))
  | some (.ex e env) => (backs args env).map (FR.ex e)
  | _ => none
section
variable (K : PySem.W.Frag)
def PostF (F : Hp) (R : Fm) (vs : List V) (r : FR) (Q : VK) (E : XK) : Prop :=
  match r with
  | .ok a outs => ∀ v F' H', Ex F F' → Sta K F' R (vs.map some) H' outs → RvOk K F' R (vs.map some) H' outs v a → Q v H'
  | .ex e outs => ∀ cls d F' H', Ex F F' → Sta K F' R (vs.map some) H' outs → XnAt K F' e cls d → E cls d H'
def spD (np : Nat) (m : List SV → Option FR) : Sp := fun vs H Q E => ∃ F R args r, args.length = np ∧ Sta K F R (vs.map some) H args ∧ m args = some r ∧ PostF K F R vs r Q E
end
section
variable {K : PySem.W.Frag} {W : WX} {F F' : Hp} {R R' : Fm} {σ : L2.St} {H H' : Hp} {env env' : Sl} {vs : List V} {args : List SV}
theorem backs_len : ∀ {as : List SV} {es : Sl} {outs : List SV}, backs as es = some outs → outs.length = as.length
  | [], _, _, h => by cases h; rfl
  | .un :: _, _, _, h => by cases h
  | .own false _ :: _, _, _, h => by cases h
  | .own true _ :: as, [], _, h => by cases h
  | .own true _ :: as, e :: es, _, h => by
    cases e with
    | own b c =>
      cases b with
      | false => cases h
      | true =>
        have h : (backs as es).map (SV.own true c :: ·) = some _ := h
        rw [Option.map_eq_some_iff] at h
        obtain ⟨o, h1, rfl⟩ := h
        simp [backs_len h1]
    | _ => cases h
  | .d x :: as, [], _, h => by cases h
  | .d x :: as, e :: es, outs, h => by
    have h : (backs as es).map (SV.d x :: ·) = some outs := by cases e <;> exact h
    rw [Option.map_eq_some_iff] at h
    obtain ⟨o, h1, rfl⟩ := h
    simp [backs_len h1]
theorem backs_at : ∀ {as : List SV} {es : Sl} {outs : List SV} {i : Nat} {s : SV}, backs as es = some outs → outs[i]? = some s → (∃ x, s = .d x ∧ as[i]? = some (.d x)) ∨ ∃ c c', s = .own true c' ∧ as[i]? = some (.own true c) ∧ es[i]? = some (.own true c')
  | [], _, _, _, _, h, e => by cases h; simp at e
  | .un :: _, _, _, _, _, h, _ => by cases h
  | .own false _ :: _, _, _, _, _, h, _ => by cases h
  | .own true _ :: as, [], _, _, _, h, _ => by cases h
  | .own true c0 :: as, e :: es, _, i, s, h, q => by
    cases e with
    | own b c =>
      cases b with
      | false => cases h
      | true =>
        have h : (backs as es).map (SV.own true c :: ·) = some _ := h
        rw [Option.map_eq_some_iff] at h
        obtain ⟨o, h1, rfl⟩ := h
        cases i with
        | zero =>
          simp at q
          subst q
          exact .inr ⟨c0, c, rfl, rfl, rfl⟩
        | succ i => simpa using backs_at (i := i) h1 (by simpa using q)
    | _ => cases h
  | .d x :: as, [], _, _, _, h, _ => by cases h
  | .d x :: as, e :: es, outs, i, s, h, q => by
    have h : (backs as es).map (SV.d x :: ·) = some outs := by cases e <;> exact h
    rw [Option.map_eq_some_iff] at h
    obtain ⟨o, h1, rfl⟩ := h
    cases i with
    | zero =>
      simp at q
      subst q
      exact .inl ⟨x, rfl, rfl⟩
    | succ i => simpa using backs_at (i := i) h1 (by simpa using q)
/-- the def's slots at its entry -/
theorem Sta.start {N : List Str} {n : Nat} (S : Sta K F R (vs.map some) H args) (hN : N.length = vs.length + n) : Sta K F R (L2.start N vs) H (args ++ List.replicate n .un) := by
  have hl : vs.length = args.length := by simpa using S.len
  have hs : L2.start N vs = vs.map some ++ List.replicate n none := by unfold L2.start; rw [hN, Nat.add_sub_cancel_left]
  rw [hs]
  have low : ∀ {i : Nat} {s : SV}, (args ++ List.replicate n SV.un)[i]? = some s → s ≠ .un → i < args.length ∧ args[i]? = some s := fun {i s} h hu => by
    by_cases hi : i < args.length
    · rw [List.getElem?_append_left hi] at h
      exact ⟨hi, h⟩
    · rw [List.getElem?_append_right (by omega), List.getElem?_replicate] at h
      split at h
      · cases h; exact absurd rfl hu
      · cases h
  have lowσ : ∀ {i : Nat}, i < args.length → (vs.map some ++ List.replicate n none)[i]? = (vs.map some)[i]? := fun {i} h => List.getElem?_append_left (by simpa [hl] using h)
  refine ⟨S.sub, S.fr, S.dis, by simp [hl], fun i x e => ?_, fun i b c e => ?_, fun i c e => ?_, fun i j bi ci bj cj p h1 h2 h3 h4 => ?_, fun i x q => (by
    obtain ⟨hi, q⟩ := low q (by simp)
    rw [lowσ hi]
    exact S.xn i x q), S.tab⟩
  · obtain ⟨hi, e⟩ := low e (by simp)
    rw [lowσ hi]
    exact S.dat i x e
  · obtain ⟨hi, e⟩ := low e (by simp)
    rw [lowσ hi]
    exact S.own i b c e
  · obtain ⟨hi, e⟩ := low e (by simp)
    rw [lowσ hi]
    exact S.tag i c e
  · obtain ⟨hi, h1⟩ := low h1 (by simp)
    obtain ⟨hj, h2⟩ := low h2 (by simp)
    rw [lowσ hi] at h3
    rw [lowσ hj] at h4
    exact S.inj i j bi ci bj cj p h1 h2 h3 h4
/-- .. and at its end, as the caller sees them -/
theorem Sta.backs {outs : List SV} (S0 : Sta K F R (vs.map some) H args) (e : Ex F F') (S : Sta K F' R σ H' env) (h : backs args env = some outs) : Sta K F' R (vs.map some) H' outs := by
  have hl := backs_len h
  have tag : ∀ {i : Nat} {c c' : C}, args[i]? = some (.own true c) → env[i]? = some (.own true c') → (vs.map some)[i]? = some (some (V.ref (R.t i))) ∧ σ[i]? = some (some (V.ref (R.t i))) := fun {i c c'} h1 h2 => ⟨S0.tag i c h1, S.tag i c' h2⟩
  refine ⟨S.sub, S.fr, S.dis, by rw [hl]; exact S0.len, fun i x q => ?_, fun i b c q => ?_, fun i c q => ?_, fun i j bi ci bj cj p h1 h2 h3 h4 => ?_, fun i x q => (by
    rcases backs_at h q with ⟨y, q1, _⟩ | ⟨c, c', q1, _⟩ <;> cases q1), S.tab⟩
  · rcases backs_at h q with ⟨y, q1, q2⟩ | ⟨c, c', q1, _⟩
    · cases q1
      obtain ⟨v, e1, r⟩ := S0.dat i x q2
      exact ⟨v, e1, r.up e⟩
    · cases q1
  · rcases backs_at h q with ⟨y, q1, q2⟩ | ⟨c1, c', q1, q2, q3⟩
    · cases q1
    · cases q1
      obtain ⟨t1, t2⟩ := tag q2 q3
      obtain ⟨p, o, z1, z2⟩ := S.own i _ _ q3
      rw [t2] at z1
      cases z1
      exact ⟨_, o, t1, z2⟩
  · rcases backs_at h q with ⟨y, q1, q2⟩ | ⟨c1, c', q1, q2, q3⟩
    · cases q1
    · exact (tag q2 q3).1
  · rcases backs_at h h1 with ⟨y, q1, q2⟩ | ⟨c1, c', q1, q2, q3⟩
    · cases q1
    · rcases backs_at h h2 with ⟨y, r1, r2⟩ | ⟨d1, d', r1, r2, r3⟩
      · cases r1
      · obtain ⟨t1, t2⟩ := tag q2 q3
        obtain ⟨u1, u2⟩ := tag r2 r3
        rw [t1] at h3
        rw [u1] at h4
        exact S.inj i j _ _ _ _ p q3 r3 (by rw [t2]; exact h3) (by rw [u2]; exact h4)
theorem RvOk.backs {outs : List SV} {a a' : RV} {v : V} (S0 : Sta K F R (vs.map some) H args) (S : Sta K F' R σ H' env) (h : Dw.backs args env = some outs) (rv : RvOk K F' R σ H' env v a) (ha : resV a env = some a') : RvOk K F' R (vs.map some) H' outs v a' := by
  have own : ∀ {c : C} {p : Addr} {o : HO}, v = .ref p → F' p = none → R.r p = none → H' p = some o → CellOk K F' p o c → (∀ (i : Nat) c', env[i]? = some (SV.own true c') → σ[i]? ≠ some (some (V.ref p))) → RvOk K F' R (vs.map some) H' outs v (.own c) := fun {c p o} e1 e2 e3 e4 e5 e6 =>
    ⟨p, o, e1, e2, e3, e4, e5, fun i b c' q z => by
      rcases backs_at h q with ⟨y, q1, q2⟩ | ⟨c1, c2, q1, q2, q3⟩
      · cases q1
      · rw [S0.tag i c1 q2] at z
        exact e6 i c2 q3 (by rw [S.tag i c2 q3]; exact z)⟩
  cases a with
  | d x => cases ha; exact rv
  | own c =>
    cases ha
    obtain ⟨p, o, e1, e2, e3, e4, e5, e6⟩ := rv
    exact own e1 e2 e3 e4 e5 fun i c' q => e6 i true c' q
  | cv i =>
    have rv : σ[i]? = some (some v) := rv
    have ha : resS env[i]? = some a' := ha
    cases hi : env[i]? with
    | none => rw [hi] at ha; cases ha
    | some s =>
      rw [hi] at ha
      cases s with
      | un => cases ha
      | xn _ => cases ha
      | d x =>
        cases ha
        obtain ⟨w, e1, r⟩ := S.dat i x hi
        rw [rv] at e1
        cases e1
        exact r
      | own b c =>
        cases b with
        | true => cases ha
        | false =>
          cases ha
          obtain ⟨p, o, e1, e2, e3, e4, e5⟩ := S.own i _ _ hi
          rw [rv] at e1
          cases e1
          refine own rfl e2 e3 e4 e5 fun j c' q z => ?_
          have := S.inj i j _ _ _ _ p hi q rv z
          subst this
          rw [hi] at q
          cases q
end
section
variable {P : Program} {w : World} {K : PySem.W.Frag} {mg : Str → Option Value} {base : Heap}
/-- a def by its body; the body is run with the def's own code -/
theorem fun_okC {x qual : Str} {st : Stmt} {f : Addr} {fd : FuncData} {N ps : List Str} {k : Nat} {sp : Sp} (F : Fun K x qual st f fd) (S : FnScope N ps (defScope st)) (len : ∀ vs H Q E, sp vs H Q E → vs.length = ps.length)
    (hb : ∀ (cdv : Value), fd.code = cdv → ∀ (A : Around) (outer : List Env) (s : Shared) (H : Hp) (vs : List V) (Q : VK) (E : XK), Room k (A.deeper (envOfC qual (defScope st) s.heap.objs.size f cdv)) → sp vs H Q E →
      ∃ t, PSs (cxOf CX0 P w K mg base N qual (defScope st) f cdv A outer s H E).nox (defBody st) t ∧ t { nx := fun _ H' => Q .non H', rt := Q } (start N vs) H) : FnOk P w K mg base CX0 (k + 1) f fd ps sp := by
  obtain ⟨_, _, _, _, _, _, cdv, _, _, rfl, lk, hcd⟩ := F.ex
  exact fn_of lk hcd S len fun A outer s H vs Q E hr hsp => (hb cdv rfl A outer s H vs Q E hr hsp).imp fun t h => ⟨h.1.nox, h.2⟩
/-- a def that raises nothing keeps the promise «it means what its body means» -/
theorem fnd_ok {x qual : Str} {st : Stmt} {f : Addr} {fd : FuncData} {N ps : List Str} {k n : Nat} {body : SS} (F : Fun K x qual st f fd) (S : FnScope N ps (defScope st)) (hn : N.length = ps.length + n)
    (hb : ∀ (cdv : Value), fd.code = cdv → ∀ (A : Around) (outer : List Env) (s : Shared) (H : Hp) (E : XK), Room k (A.deeper (envOfC qual (defScope st) s.heap.objs.size f cdv)) → PSs (cxOf CX0 P w K mg base N qual (defScope st) f cdv A outer s H E).nox (defBody st) (dS K W0 body)) :
    FnOk P w K mg base CX0 (k + 1) f fd ps (spD K ps.length fun args => match runF n body args with | some (.ok a o) => some (.ok a o) | _ => none) := by
  refine fun_okC F S (fun vs H Q E h => ?_) (fun cdv hcd A outer s H vs Q E hr h => ⟨_, hb cdv hcd A outer s H E hr, ?_⟩)
  · obtain ⟨F, R, args, r, h1, h2, _⟩ := h
    have := h2.len
    rw [List.length_map] at this
    omega
  · obtain ⟨F1, R, args, r, h1, S1, e, p⟩ := h
    have hv : vs.length = ps.length := by
      have := S1.len
      rw [List.length_map] at this
      omega
    have S2 := S1.start (N := N) (n := n) (by omega)
    dsimp only at e
    cases hr : runF n body args with
    | none => rw [hr] at e; cases e
    | some q =>
      rw [hr] at e
      cases q with
      | ex _ _ => cases e
      | ok a outs =>
        cases e
        unfold runF at hr
        cases hbd : body (args ++ List.replicate n .un) with
        | none => rw [hbd] at hr; cases hr
        | some o =>
          rw [hbd] at hr
          refine ⟨_, F1, R, o, S2, hbd, ?_⟩
          cases o with
          | rt a0 env =>
            dsimp only at hr
            rw [Option.bind_eq_some_iff] at hr
            obtain ⟨a', h3, hr⟩ := hr
            rw [Option.map_eq_some_iff] at hr
            obtain ⟨o', h4, hr⟩ := hr
            cases hr
            exact fun v σ' F' H' e1 S3 rv => p v F' H' e1 (S1.backs e1 S3 h4) (RvOk.backs S1 S3 h4 rv h3)
          | nx env =>
            dsimp only at hr
            rw [Option.map_eq_some_iff] at hr
            obtain ⟨o', h4, hr⟩ := hr
            cases hr
            exact fun σ' F' H' e1 S3 => p .non F' H' e1 (S1.backs e1 S3 h4) .non
          | bk env => cases hr
          | ct env => cases hr
          | ex x env =>
            dsimp only at hr
            rw [Option.map_eq_some_iff] at hr
            obtain ⟨o', h4, hr⟩ := hr
            cases hr
end
end
end Dw
namespace Dw
noncomputable section
open PySem PySem.Spec PyProof.Rows L2
variable [Glo] [Tabs]
open Classical
noncomputable def calF (R : Fm) (σ : L2.St) (H : Hp) (env : Sl) (i : Nat) (p0 : Addr) : Fm :=
  ⟨fun a => if ∃ j b c, j ≠ i ∧ env[j]? = some (SV.own b c) ∧ σ[j]? = some (some (V.ref a)) then H a else R.r a, fun _ => p0, R.T⟩
section
variable {K : PySem.W.Frag} {W : WX} {F F' : Hp} {R R' : Fm} {σ : L2.St} {H H' : Hp} {env : Sl} {Q : VK} {i : Nat} {p0 : Addr}
theorem calF_own (S : Sta K F R σ H env) {j : Nat} {b : Bool} {c : C} {p : Addr} (hj : j ≠ i) (h : env[j]? = some (.own b c)) (e : σ[j]? = some (some (V.ref p))) : (calF R σ H env i p0).r p = H p := by
  show (if _ then _ else _) = _
  rw [if_pos ⟨j, b, c, hj, h, e⟩]
theorem calF_none (S : Sta K F R σ H env) {p : Addr} (h : (calF R σ H env i p0).r p = none) : R.r p = none ∧ ∀ (j : Nat) (b : Bool) (c : C), j ≠ i → env[j]? = some (SV.own b c) → σ[j]? ≠ some (some (V.ref p)) := by
  have h : (if ∃ j b c, j ≠ i ∧ env[j]? = some (SV.own b c) ∧ σ[j]? = some (some (V.ref p)) then H p else R.r p) = none := h
  by_cases hc : ∃ j b c, j ≠ i ∧ env[j]? = some (SV.own b c) ∧ σ[j]? = some (some (V.ref p))
  · rw [if_pos hc] at h
    exact ⟨S.freeR h, fun j b c hj e1 e2 => by
      obtain ⟨q, o, e3, _, _, e4, _⟩ := S.own j b c e1
      rw [e2] at e3
      cases e3
      rw [h] at e4
      cases e4⟩
  · rw [if_neg hc] at h
    exact ⟨h, fun j b c hj e1 e2 => hc ⟨j, b, c, hj, e1, e2⟩⟩
theorem calF_ex (S : Sta K F R σ H env) : Ex R.r (calF R σ H env i p0).r := fun a u e => by
  show (if ∃ j b c, j ≠ i ∧ env[j]? = some (SV.own b c) ∧ σ[j]? = some (some (V.ref a)) then H a else R.r a) = some u
  split
  · exact S.fr a u e
  · exact e
theorem calF_sub (S : Sta K F R σ H env) : Ex (calF R σ H env i p0).r H := fun a u e => by
  have e : (if ∃ j b c, j ≠ i ∧ env[j]? = some (SV.own b c) ∧ σ[j]? = some (some (V.ref a)) then H a else R.r a) = some u := e
  split at e
  · exact e
  · exact S.fr a u e
theorem calF_dis (S : Sta K F R σ H env) : ∀ b o, (calF R σ H env i p0).r b = some o → F b = none := fun a u e => by
  have e : (if ∃ j b c, j ≠ i ∧ env[j]? = some (SV.own b c) ∧ σ[j]? = some (some (V.ref a)) then H a else R.r a) = some u := e
  split at e
  · next h =>
    obtain ⟨j, b, c, _, h1, h2⟩ := h
    obtain ⟨q, o, e3, e4, _⟩ := S.own j b c h1
    rw [h2] at e3
    cases e3
    exact e4
  · exact S.dis a u e
theorem calF_free (S : Sta K F R σ H env) {b : Bool} {c : C} {p : Addr} (h : env[i]? = some (.own b c)) (e : σ[i]? = some (some (V.ref p))) : (calF R σ H env i p0).r p = none := by
  show (if ∃ j b c, j ≠ i ∧ env[j]? = some (SV.own b c) ∧ σ[j]? = some (some (V.ref p)) then H p else R.r p) = none
  rw [if_neg]
  · obtain ⟨q, o, e3, _, e4, _⟩ := S.own i b c h
    rw [e] at e3
    cases e3
    exact e4
  · intro ⟨j, b', c', hj, h1, h2⟩
    exact hj (S.inj j i _ _ _ _ p h1 h h2 e)
theorem calF_tab (S : Sta K F R σ H env) : ∀ P, Tabs.T P → (calF R σ H env i p0).r P = none := fun P h => by
  obtain ⟨⟨ps, h1, _⟩, _, h3⟩ := S.tab P h
  show (if _ then _ else _) = none
  rw [if_neg]
  · exact h3
  · intro ⟨j, b, c, _, e1, e2⟩
    obtain ⟨q, o, e3, _, _, e4, e5⟩ := S.own j b c e1
    rw [e2] at e3
    cases e3
    rw [h1] at e4
    exact e5.noT ps (Option.some.inj e4).symm
theorem dGet {xs : List D} {vs : List V} {k : Nat} {s : SV} (r : RelAll K F vs xs) (h : (xs.map SV.d)[k]? = some s) : ∃ x v, s = .d x ∧ (vs.map some)[k]? = some (some v) ∧ Rel K F v x := by
  rw [List.getElem?_map, Option.map_eq_some_iff] at h
  obtain ⟨x, h1, rfl⟩ := h
  obtain ⟨v, h2, rv⟩ := r.getD h1
  exact ⟨x, v, rfl, by rw [List.getElem?_map, h2]; rfl, rv⟩
/-- in: data only -/
theorem Sta.callD (S : Sta K F R σ H env) {xs : List D} {vs : List V} (r : RelAll K F vs xs) : Sta K F (calF R σ H env i p0) (vs.map some) H (xs.map .d) := by
  refine ⟨S.sub, calF_sub S, calF_dis S, by simp [r.len], fun k x e => ?_, fun k b c e => ?_, fun k c e => ?_, fun k l bk ck bl cl p h1 h2 _ _ => ?_, fun k x q => (by
    obtain ⟨y, v, h1, _⟩ := dGet r q
    cases h1), fun P h => let ⟨h1, h2, _⟩ := S.tab P h; ⟨h1, h2, calF_tab S P h⟩⟩
  · obtain ⟨y, v, h1, h2, h3⟩ := dGet r e
    cases h1
    exact ⟨v, h2, h3⟩
  · obtain ⟨y, v, h1, _⟩ := dGet r e
    cases h1
  · obtain ⟨y, v, h1, _⟩ := dGet r e
    cases h1
  · obtain ⟨y, v, h1, _⟩ := dGet r h1
    cases h1
/-- out: the caller's slots stand as they did -/
theorem Sta.retD {σc : L2.St} {envc : Sl} (S : Sta K F R σ H env) (e : Ex F F') (S' : Sta K F' (calF R σ H env env.length p0) σc H' envc) : Sta K F' R σ H' env := by
  refine ⟨S'.sub, (calF_ex S).trans S'.fr, fun b u q => S'.dis b u (calF_ex S b u q), S.len, fun i x q => ?_, fun j b c q => ?_, S.tag, S.inj, S.xnUp e, fun P h => let ⟨h1, h2, _⟩ := S'.tab P h; ⟨h1, h2, (S.tab P h).2.2⟩⟩
  · obtain ⟨v, e1, r⟩ := S.dat i x q
    exact ⟨v, e1, r.up e⟩
  · obtain ⟨p, o, e1, e2, e3, e4, e5⟩ := S.own j b c q
    have hj : j ≠ env.length := fun z => by subst z; simp at q
    have hr := calF_own (p0 := p0) S hj q e1
    rw [e4] at hr
    exact ⟨p, o, e1, S'.dis p o hr, e3, S'.fr p o hr, e5.up e⟩
theorem RvOk.ret {σc : L2.St} {envc : Sl} {a : RV} {v : V} (S : Sta K F R σ H env) (h : RvOk K F' (calF R σ H env i p0) σc H' envc v a) (hcv : ∀ i, a ≠ .cv i) (hi : ∀ (b : Bool) c, env[i]? = some (SV.own b c) → ∀ p, a ≠ .d .non → σ[i]? = some (some (V.ref p)) → v ≠ .ref p ∨ ∃ x, a = .d x) : RvOk K F' R σ H' env v a := by
  cases a with
  | d x => exact h
  | cv i => exact absurd rfl (hcv i)
  | own c =>
    obtain ⟨p, o, e1, e2, e3, e4, e5, e6⟩ := h
    obtain ⟨h1, h2⟩ := calF_none S e3
    refine ⟨p, o, e1, e2, h1, e4, e5, fun j b c' q z => ?_⟩
    by_cases hj : j = i
    · subst hj
      rcases hi b c' q p (by simp) z with h | ⟨x, h⟩
      · exact h e1
      · cases h
    · exact h2 j b c' hj q z
end
def retV : RV → Option RV
  | .d x => some (.d x)
  | .own c => some (.own c)
  | .cv _ => none
def outD (env : Sl) : FR → Option Re
  | .ok a _ => (retV a).map (Re.ok · env)
  | .ex e _ => some (.ex e env)
def callD (m : List SV → Option FR) (dfs : List D) (fa : SA) : SE := fun env => bindA (fa env) fun as env1 => (frzs as env1).bind fun p => (m ((p.1 ++ dfs).map .d)).bind (outD p.2)
section
variable {K : PySem.W.Frag} {W : WX} {F F' : Hp} {R R' : Fm} {σ : L2.St} {H H' : Hp} {env : Sl} {Q : VK}
theorem post_out {vs : List V} {xs : List D} {fr : FR} {r : Re} (S : Sta K F R σ H env) (rv : RelAll K F vs xs) (e : outD env fr = some r) (p : PostE K W F R σ r Q) : PostF K F (calF R σ H env env.length 0) vs fr Q (WE W σ) := by
  cases fr with
  | ex x outs =>
    cases e
    exact fun cls d F' H' e1 S1 hx => p cls d F' H' e1 (S.retD e1 S1) hx
  | ok a outs =>
    have e : (retV a).map (Re.ok · env) = some r := e
    rw [Option.map_eq_some_iff] at e
    obtain ⟨a', h, rfl⟩ := e
    have ha : a' = a ∧ ∀ i, a ≠ .cv i := by
      cases a with
      | d x => cases h; exact ⟨rfl, by simp⟩
      | own c => cases h; exact ⟨rfl, by simp⟩
      | cv i => cases h
    obtain ⟨rfl, hcv⟩ := ha
    exact fun v F' H' e1 S1 rv' => p v F' H' e1 (S.retD e1 S1) (RvOk.ret S rv' hcv fun b c q => by simp at q)
theorem dE_callD {np : Nat} {m : List SV → Option FR} {dfs : List D} {dvs : List V} {fa : SA} (hd : ∀ F : Hp, RelAll K F dvs dfs) (hn : ∀ as fr, m as = some fr → as.length = np) (h : dE K W (callD m dfs fa) σ H Q) : tCallSD (spD K np m) dvs (WE W) (dA K W fa) σ H Q := by
  obtain ⟨env, F, R, r, S, e, p⟩ := h
  rcases bindA_inv e with ⟨as, env1, h1, h2⟩ | ⟨x, env1, h1, rfl⟩
  · rw [Option.bind_eq_some_iff] at h2
    obtain ⟨⟨xs, env2⟩, h3, h4⟩ := h2
    rw [Option.bind_eq_some_iff] at h4
    obtain ⟨fr, h4, h5⟩ := h4
    refine ⟨env, F, R, _, S, h1, fun vs F1 H1 R1 e1 eR S1 hv => ?_⟩
    obtain ⟨F2, R2, e2, eR2, S2, rr⟩ := frzs_held eR S1 hv h3
    have S3 := S2.unhold eR2
    have rr2 : RelAll K F2 (vs ++ dvs) (xs ++ dfs) := rr.app (hd F2)
    exact ⟨F2, calF R σ H1 env2 env2.length 0, _, fr, hn _ _ h4, S3.callD rr2, h4, post_out S3 rr2 h5 (p.up (e1.trans e2))⟩
  · exact ⟨env, F, R, _, S, h1, p⟩
end
section
variable {X : Cx} {W : WX} {CX : CXT} {k : Nat} {f : Addr} {fd : FuncData} {ps : List Str} {np : Nat} {m : List SV → Option FR} {dfs : List D} {dvs : List V} {ds : List Value} {fa : SA} {x : Str} {p pos : Pos} {e : Expr} {es : List Expr}
theorem pd_call (F : FnOk X.prog X.w X.K X.mg X.base CX k f fd ps (spD X.K np m)) (hr : Room k X.A) (hm : X.mg x = some (.ref f)) (hk : PySem.W.keepIn X.K (.ref f) = true) (hb : Binds X.K fd ps ds) (hd : Vals dvs ds) (hx : ∀ σ, PassesAt CX X σ (WE W σ)) (hD : ∀ F : Hp, RelAll X.K F dvs dfs) (hn : ∀ as fr, m as = some fr → as.length = np)
    (ha : PA X (e :: es) (dA X.K W fa)) (hg : Gl X x := by rfl) (hdb : (x == ("__debug__" : Str)) = false := by decide) (he : starEach (e :: es) X.env = (false, eval e X.env) :: starEach es X.env := by rfl) (hpl : (backTo pos (starEach es X.env)).any (·.1) = false := by rfl) :
    PE X (.Call (.Name x p) (e :: es) [] pos) (dE X.K W (callD m dfs fa)) := (pe_callSD F hr hg hm hk hb hd hx ha hdb he hpl).wk fun _ _ _ q => dE_callD hD hn q
end
end
end Dw
namespace Dw
noncomputable section
open PySem PySem.Spec PyProof.Rows L2
variable [Glo] [Tabs]
def rInt1 : List V → Hp → VK → Prop := fun xs H Q => (∃ i, xs = [.int i] ∧ Q (.int i) H) ∨ ∃ k, xs = [.bl k] ∧ Q (.int (if k then 1 else 0)) H
theorem cr_int {X : Cx} : CallR X (.type "int") rInt1 := call_int1
theorem snd_intC {K : PySem.W.Frag} : SndC K intC rInt1 := by
  intro W F R σ H env Q xs vs z S h e p
  match xs, h, e with
  | [.int i], h, e =>
    cases e
    obtain ⟨v, rfl, hv⟩ := vw1 h
    cases hv
    exact .inl ⟨i, rfl, post_d S p (.int _)⟩
  | [.bl b], h, e =>
    cases e
    obtain ⟨v, rfl, hv⟩ := vw1 h
    cases hv
    refine .inr ⟨b, rfl, post_d S p ?_⟩
    cases b <;> exact .int _
def rOrd : List V → Hp → VK → Prop := fun xs H Q => ∃ x, xs = [.str x] ∧ x.length = 1 ∧ Q (.int (x.cps.getD 0 0 : Nat)) H
theorem cr_ord {X : Cx} : CallR X (.builtin "ord") rOrd := call_ord
theorem snd_ord {K : PySem.W.Frag} : SndC K ordC rOrd := by
  intro W F R σ H env Q xs vs z S h e p
  match xs, h, e with
  | [.str [c]], h, e =>
    cases e
    obtain ⟨v, rfl, hv⟩ := vw1 h
    cases hv
    exact ⟨mk [c], rfl, rfl, post_d S p (.int _)⟩
def tyD : D → String
  | .non => "NoneType"
  | .bl _ => "bool"
  | .int _ => "int"
  | .str _ => "str"
  | .lst _ => "list"
  | .tup _ => "tuple"
  | .dct _ _ => "dict"
  | .dcu _ _ => "dict"
  | .ins _ _ _ => "object"
/-- what isinstance may look at here -/
def okI : D → Bool
  | .dct _ _ => false
  | .dcu _ _ => false
  | .ins _ _ _ => false
  | _ => true
def isiD (n : String) (x : D) : Bool := match x with
  | .bl _ => n == "bool" || n == "int"
  | x => n == tyD x
theorem tupTy {K : PySem.W.Frag} {H : Hp} {a : Addr} {xs : List V} (h : SqT K H a xs) : TyX K H (.ref a) (.type "tuple") := by
  rcases h with h | h
  · rcases h with h | ⟨o, h⟩
    · exact .base (.tup h)
    · exact .fTuple h
  · obtain ⟨o, its, n, hk, hc, _⟩ := h
    exact .kTuple hk hc
theorem tyD_ok {K : PySem.W.Frag} {F H : Hp} {v : V} {x : D} (e : Ex F H) (h : Vw K F H v x) (o : okI x = true) : TyX K H v (.type (tyD x)) := by
  cases x with
  | dct _ _ => cases o
  | dcu _ _ => cases o
  | ins _ _ _ => cases o
  | non => cases h; exact .base .non
  | bl b => cases h; exact .base (.bl b)
  | int i => cases h; exact .base (.int i)
  | str s => cases h; exact .base (.str _)
  | lst xs =>
    obtain ⟨a, vs, rfl, s, r⟩ := h
    rcases s with s | ⟨o, _, _, hk, hc, _⟩
    · rcases s with s | ⟨o, s⟩
      · exact .base (.lst s)
      · exact .base (.frz s)
    · exact .kList hk hc
  | tup xs =>
    cases h with
    | tup s r => exact tupTy (ex_t e s)
theorem kit_all : ∀ a ∈ ["NoneType", "bool", "int", "str", "list", "tuple"], ∀ n ∈ ["bool", "int", "str", "list", "tuple"], kitB a n = some (n == a || (a == "bool" && n == "int")) := by decide +kernel
theorem kit_ok {n : String} (hn : n ∈ ["bool", "int", "str", "list", "tuple"]) (x : D) (o : okI x = true) : kitB (tyD x) n = some (isiD n x) := by
  have h := fun a ha => kit_all a ha n hn
  cases x with
  | dct _ _ => cases o
  | dcu _ _ => cases o
  | ins _ _ _ => cases o
  | bl b =>
    rw [show tyD (.bl b) = "bool" from rfl, h "bool" (by decide)]
    simp [isiD]
  | non => rw [show tyD .non = "NoneType" from rfl, h "NoneType" (by decide)]; simp [isiD, tyD]
  | int b => rw [show tyD (.int b) = "int" from rfl, h "int" (by decide)]; simp [isiD, tyD]
  | str b => rw [show tyD (.str b) = "str" from rfl, h "str" (by decide)]; simp [isiD, tyD]
  | lst b => rw [show tyD (.lst b) = "list" from rfl, h "list" (by decide)]; simp [isiD, tyD]
  | tup b => rw [show tyD (.tup b) = "tuple" from rfl, h "tuple" (by decide)]; simp [isiD, tyD]
def isiE (n : String) (fa : SE) : SE := fun env => bindE (fa env) fun a env1 => (pk a env1).bind fun x => if okI x then some (Re.ok (.d (.bl (isiD n x))) env1) else none
section
variable {X : Cx} {W : WX} {e : Expr} {fa : SE} {T : Str} {n : String} {p p2 pos : Pos}
theorem pd_isi (hn : n ∈ ["bool", "int", "str", "list", "tuple"]) (hm : X.mg "isinstance" = none) (hT : X.mg T = none) (hb : bootBuiltins T = some (.type n)) (ha : PE X e (dE X.K W fa)) (hgT : Gl X T := by rfl) (hTn : T ≠ "__name__" := by decide) (hTd : (T == ("__debug__" : Str)) = false := by decide) (hg : Gl X "isinstance" := by rfl)
    (he : starEach [e, .Name T p2] X.env = (false, eval e X.env) :: starEach [.Name T p2] X.env := by rfl) (he2 : starEach [.Name T p2] X.env = (false, eval (.Name T p2) X.env) :: starEach [] X.env := by rfl) (hpl : (backTo pos (starEach [.Name T p2] X.env)).any (·.1) = false := by rfl) :
    PE X (.Call (.Name "isinstance" p) [e, .Name T p2] [] pos) (dE X.K W (isiE n fa)) :=
  (pe_callB call_isi hg hm (show bootBuiltins "isinstance" = some (.builtin "isinstance") by rfl) (pa_cons ha (pa_cons (pe_bltn (v := .ty n) hgT hT hb rfl hTn hTd) pa_nil he2) he) (by decide) (by decide) he hpl).wk fun σ H Q q =>
    dE_one q fun a env F R v H1 S rv q => by
      obtain ⟨r, e1, p1⟩ := q
      rw [Option.bind_eq_some_iff] at e1
      obtain ⟨x, hx, e1⟩ := e1
      obtain ⟨o, rfl⟩ := some_if e1
      exact ⟨v, .ty n, .type (tyD x), .type n, isiD n x, rfl, .ty n, tyD_ok S.sub (pk_vw S rv hx) o, kit_ty (kit_ok hn x o), post_d S p1 (.bl _)⟩
end
def SndM (K : PySem.W.Frag) (f : D → List D → Option RV) (r : V → List V → Hp → VK → Prop) : Prop := ∀ {W : WX} {F : Hp} {R : Fm} {σ : L2.St} {H : Hp} {env : Sl} {Q : VK} {x : D} {v : V} {xs : List D} {vs : List V} {z : RV},
  Sta K F R σ H env → Vw K F H v x → VwAll K F H vs xs → f x xs = some z → PostE K W F R σ (.ok z env) Q → r v vs H Q
def metE (T : String) (f : D → List D → Option RV) (fo : SE) (fa : SA) : SE := fun env => bindE (fo env) fun a env1 => (pk a env1).bind fun x0 => if tyD x0 = T then bindA (fa env1) fun as env2 => (pk a env2).bind fun x => (pks as env2).bind fun xs => (f x xs).map (Re.ok · env2) else none
theorem tyV_d {K : PySem.W.Frag} {F H : Hp} {v : V} {x : D} {T : String} (h : Vw K F H v x) (e : tyD x = T) (hT : T = "str" ∨ T = "list") : tyV K T v H := by
  cases x with
  | str s => cases h; exact e.symm
  | lst xs =>
    obtain ⟨a, vs, rfl, s, r⟩ := h
    exact .inl ⟨e.symm, vs, s⟩
  | dct _ _ => subst e; rcases hT with h | h <;> simp [tyD] at h
  | dcu _ _ => subst e; rcases hT with h | h <;> simp [tyD] at h
  | ins _ _ _ => subst e; rcases hT with h | h <;> simp [tyD] at h
  | _ => subst e; rcases hT with h | h <;> simp [tyD] at h
section
variable {K : PySem.W.Frag} {W : WX} {F F' : Hp} {R R' : Fm} {σ : L2.St} {H H' : Hp} {env : Sl} {Q : VK}
theorem PostA.un {QA : List V → Hp → Prop} (e : FEx R R') : ∀ {r : ReA}, PostA K W F R σ r QA → PostA K W F R' σ r QA
  | .ok _ _, h => fun vs F2 H2 R2 e2 eR s q => h vs F2 H2 R2 e2 (e.trans eR) s (q.low e)
  | .ex _ _, h => fun c d F2 H2 e2 s q => h c d F2 H2 e2 (s.unhold e) q
theorem dE_met {T : String} {f : D → List D → Option RV} {r : V → List V → Hp → VK → Prop} {fo : SE} {fa : SA} (hT : T = "str" ∨ T = "list") (hs : SndM K f r) (h : dE K W (metE T f fo fa) σ H Q) : tBM K T r (dE K W fo) (dA K W fa) σ H Q := by
  obtain ⟨env, F, R, S, q⟩ := of_dE h
  refine dE_of S (atE_bind q fun a env1 F1 v H1 e1 S1 rv q1 => ?_)
  obtain ⟨r', e, p⟩ := q1
  rw [Option.bind_eq_some_iff] at e
  obtain ⟨x0, h1, e⟩ := e
  obtain ⟨hty, e⟩ := (show tyD x0 = T ∧ _ = some r' by
    by_cases hc : tyD x0 = T
    · rw [if_pos hc] at e; exact ⟨hc, e⟩
    · rw [if_neg hc] at e; cases e)
  refine ⟨tyV_d (pk_vw S1 rv h1) hty hT, ?_⟩
  obtain ⟨R', eR, S1', hd⟩ := hold S1 rv
  rcases bindA_inv e with ⟨as, env2, h2, h3⟩ | ⟨x, env2, h2, rfl⟩
  · rw [Option.bind_eq_some_iff] at h3
    obtain ⟨x, h4, h3⟩ := h3
    rw [Option.bind_eq_some_iff] at h3
    obtain ⟨xs, h5, h3⟩ := h3
    rw [Option.map_eq_some_iff] at h3
    obtain ⟨z, h6, rfl⟩ := h3
    refine ⟨env1, F1, R', _, S1', h2, fun vs F2 H2 R2 e2 eR2 S2 hv => ?_⟩
    have S3 := S2.unhold eR2
    exact hs (S3.unhold eR) (pk_vw (S3.unhold eR) (unheld e2 eR S3 hd) h4) (pks_vw eR2 S2 hv h5) h6 (p.up e2)
  · exact ⟨env1, F1, R', _, S1', h2, fun cls d F2 H2 e2 S2 hx => p cls d F2 H2 e2 (S2.unhold eR) hx⟩
end
section
variable {X : Cx} {W : WX} {o e : Expr} {es : List Expr} {fo : SE} {fa : SA} {apos pos : Pos} {T id : String} {name : Str} {f : D → List D → Option RV} {r : V → List V → Hp → VK → Prop}
theorem pd_met (hT : T = "str" ∨ T = "list") (pa : PlainAttrs T) (slot : Slot T name id) (hty : typeOf (.builtin id) = pure (.type "method_descriptor")) (hm : MtR X id r) (hs : SndM X.K f r) (ho : PE X o (dE X.K W fo)) (ha : PA X (e :: es) (dA X.K W fa))
    (hbase : attributeBase o name X.env (eval o X.env) = eval o X.env := by rfl)
    (hfew : ((backTo pos (starEach (e :: es) X.env)).all (fun x => !x.1) && (backToKw pos (keywordEach [] X.env)).all (fun x => x.1.isSome)
      && decide ((e :: es).length + ([] : List Keyword).length + (if ([] : List Keyword).isEmpty then 0 else 1) < 30)) = true := by rfl)
    (hline : (apos.endLine == pos.line) = true := by rfl) (hs' : starEach (e :: es) X.env = (false, eval e X.env) :: starEach es X.env := by rfl) (hplain : (backTo pos (starEach es X.env)).any (·.1) = false := by rfl) :
    PE X (.Call (.Attribute o name apos) (e :: es) [] pos) (dE X.K W (metE T f fo fa)) := (pe_bm pa slot hty hm ho ha hbase hfew hline hs' hplain).wk fun _ _ _ q => dE_met hT hs q
end
def txts : List D → Option (List (List Nat))
  | [] => some []
  | .str x :: r => (txts r).map (x :: ·)
  | _ => none
def joinD : D → List D → Option RV
  | .str a, [.lst xs] => (txts xs).bind fun ys => if (ys.map (·.length)).sum + ys.length * a.length ≤ 100000 then some (.d (.str (TL.joinL a ys))) else none
  | .str a, [.tup xs] => (txts xs).bind fun ys => if (ys.map (·.length)).sum + ys.length * a.length ≤ 100000 then some (.d (.str (TL.joinL a ys))) else none
  | _, _ => none
def rJoin (K : PySem.W.Frag) : V → List V → Hp → VK → Prop := fun x xs H Q => ∃ a p, ∃ ys : List Str, x = .str a ∧ xs = [.ref p] ∧ (SqL K H p (ys.map V.str) ∨ SqT K H p (ys.map V.str)) ∧
    (ys.map (·.length)).sum + ys.length * a.length ≤ 16777216 ∧ Q (.str (Txt.join a ys)) H
theorem txts_rel {K : PySem.W.Frag} {F : Hp} : ∀ {xs : List D} {vs : List V} {ys : List (List Nat)}, RelAll K F vs xs → txts xs = some ys → vs = (ys.map mk).map V.str
  | [], _, ys, r, e => by cases r; cases e; rfl
  | .str x :: xs, _, ys, r, e => by
    have e : (txts xs).map (x :: ·) = some ys := e
    rw [Option.map_eq_some_iff] at e
    obtain ⟨zs, h, rfl⟩ := e
    cases r with
    | cons a b =>
      cases a
      rw [txts_rel b h]
      rfl
  | .non :: _, _, _, _, e => by cases e
  | .bl _ :: _, _, _, _, e => by cases e
  | .int _ :: _, _, _, _, e => by cases e
  | .lst _ :: _, _, _, _, e => by cases e
  | .tup _ :: _, _, _, _, e => by cases e
theorem join_mk (a : List Nat) (ys : List (List Nat)) : Txt.join (mk a) (ys.map mk) = mk (TL.joinL a ys) := by
  rw [TL.join_eq]
  have h := TL.tl_join (mk a) (ys.map mk)
  rw [List.map_map, show (TL.tl ∘ mk) = id from funext fun x => rfl, List.map_id] at h
  rw [← mk_of (Str.join (mk a) (ys.map mk))]
  exact congrArg mk h
theorem lens_mk (ys : List (List Nat)) : (ys.map mk).map (·.length) = ys.map (·.length) := by
  rw [List.map_map]
  exact List.map_congr_left fun x _ => mk_len x
theorem snd_join {K : PySem.W.Frag} : SndM K joinD (rJoin K) := by
  intro W F R σ H env Q x v xs vs z S hx h e p
  have go : ∀ {a : List Nat} {ds : List D} {us : List V} {q : Addr}, v = .str (mk a) → vs = [.ref q] → (SqL K H q us ∨ SqT K H q us) → RelAll K F us ds → ((txts ds).bind fun ys => if (ys.map (·.length)).sum + ys.length * a.length ≤ 100000 then some (RV.d (.str (TL.joinL a ys))) else none) = some z → rJoin K v vs H Q := by
    intro a ds us q e1 e2 hq r e
    subst e1 e2
    rw [Option.bind_eq_some_iff] at e
    obtain ⟨ys, h1, e⟩ := e
    obtain ⟨c, rfl⟩ := some_if e
    have := txts_rel r h1
    subst this
    refine ⟨mk a, q, ys.map mk, rfl, rfl, hq, ?_, ?_⟩
    · rw [lens_mk, List.length_map, mk_len]
      omega
    · rw [join_mk]
      exact post_d S p (.str _)
  cases x with
  | str a =>
    cases hx
    match xs, h, e with
    | [.lst ds], h, e =>
      obtain ⟨w, rfl, q, us, rfl, s, r⟩ := vw1 h
      exact go rfl rfl (.inl s) r e
    | [.tup ds], h, e =>
      obtain ⟨w, rfl, hw⟩ := vw1 h
      cases hw with
      | tup s r => exact go rfl rfl (.inr (ex_t S.sub s)) r e
  | _ => cases e
section
variable {X : Cx} {W : WX} {o e : Expr} {fo : SE} {fa : SA} {apos pos : Pos}
theorem pd_join (ho : PE X o (dE X.K W fo)) (ha : PA X [e] (dA X.K W fa)) (hbase : attributeBase o "join" X.env (eval o X.env) = eval o X.env := by rfl)
    (hfew : ((backTo pos (starEach [e] X.env)).all (fun x => !x.1) && (backToKw pos (keywordEach [] X.env)).all (fun x => x.1.isSome)
      && decide ([e].length + ([] : List Keyword).length + (if ([] : List Keyword).isEmpty then 0 else 1) < 30)) = true := by rfl)
    (hline : (apos.endLine == pos.line) = true := by rfl) (hs' : starEach [e] X.env = (false, eval e X.env) :: starEach [] X.env := by rfl) (hplain : (backTo pos (starEach [] X.env)).any (·.1) = false := by rfl) :
    PE X (.Call (.Attribute o "join" apos) [e] [] pos) (dE X.K W (metE "str" joinD fo fa)) := pd_met (.inl rfl) F.plainAttrs_str F.slot_str_join F.type_str_join mt_join snd_join ho ha hbase hfew hline hs' hplain
end
end
end Dw
namespace Dw
noncomputable section
open PySem PySem.Spec PyProof.Rows L2
variable [Glo] [Tabs]
section
variable {K : PySem.W.Frag} {W : WX} {F F' : Hp} {R R' : Fm} {σ : L2.St} {H H' : Hp} {env : Sl} {Q : VK}
theorem Sta.mut (S : Sta K F R σ H env) {i : Nat} {b : Bool} {c c' : C} {p : Addr} {o' : HO} (hi : env[i]? = some (.own b c)) (e : σ[i]? = some (some (V.ref p))) (h : CellOk K F p o' c') : Sta K F R σ (upd H p o') (env.set i (.own b c')) := by
  obtain ⟨q, o, e1, hF, hR, hp, hcell⟩ := S.own i b c hi
  rw [e] at e1
  cases e1
  have hl : i < env.length := (List.getElem?_eq_some_iff.mp hi).1
  have other : ∀ {j : Nat} {b1 : Bool} {c1 : C}, (env.set i (.own b c'))[j]? = some (SV.own b1 c1) → (j = i ∧ b1 = b ∧ c1 = c') ∨ (j ≠ i ∧ env[j]? = some (SV.own b1 c1)) := fun {j b1 c1} h => by
    by_cases hj : j = i
    · subst hj
      rw [List.getElem?_set_self hl] at h
      cases h
      exact .inl ⟨rfl, rfl, rfl⟩
    · rw [List.getElem?_set_ne (Ne.symm hj)] at h
      exact .inr ⟨hj, h⟩
  have keep : ∀ {a : Addr} {u : HO}, a ≠ p → H a = some u → upd H p o' a = some u := fun ha q => by rw [upd_ne ha]; exact q
  refine ⟨fun a u q => keep (fun z => by rw [z, hF] at q; cases q) (S.sub a u q), fun a u q => keep (fun z => by rw [z, hR] at q; cases q) (S.fr a u q), S.dis, by rw [List.length_set]; exact S.len, fun j x q => ?_, fun j b1 c1 q => ?_, fun j c1 q => ?_, fun j k bj cj bk ck a h1 h2 h3 h4 => ?_, fun j x q => (S.xnNe (Ex.refl F) (fun y z => by cases z) j x q).2, fun P h => let ⟨⟨ps, h1, h2⟩, h3⟩ := S.tab P h; ⟨⟨ps, keep (fun z => by rw [z, hp] at h1; exact hcell.noT ps (Option.some.inj h1)) h1, h2⟩, h3⟩⟩
  · by_cases hj : j = i
    · subst hj
      rw [List.getElem?_set_self hl] at q
      cases q
    · rw [List.getElem?_set_ne (Ne.symm hj)] at q
      exact S.dat j x q
  · rcases other q with ⟨rfl, rfl, rfl⟩ | ⟨hj, q⟩
    · exact ⟨p, o', e, hF, hR, upd_same, h⟩
    · obtain ⟨a, o1, z1, z2, z3, z4, z5⟩ := S.own j b1 c1 q
      exact ⟨a, o1, z1, z2, z3, keep (fun z => hj (S.inj j i _ _ _ _ p q hi (by rw [← z]; exact z1) e)) z4, z5⟩
  · rcases other q with ⟨rfl, h1, h2⟩ | ⟨hj, q⟩
    · subst h1; exact S.tag j c hi
    · exact S.tag j c1 q
  · have get : ∀ {j : Nat} {b1 : Bool} {c1 : C}, (env.set i (.own b c'))[j]? = some (SV.own b1 c1) → ∃ b2 c2, env[j]? = some (SV.own b2 c2) := fun q => by
      rcases other q with ⟨rfl, _, _⟩ | ⟨_, q⟩
      · exact ⟨_, _, hi⟩
      · exact ⟨_, _, q⟩
    obtain ⟨_, _, g1⟩ := get h1
    obtain ⟨_, _, g2⟩ := get h2
    exact S.inj j k _ _ _ _ a g1 g2 h3 h4
def SndU (K : PySem.W.Frag) (f : List D → List D → Option (D × List D)) (r : V → List V → Hp → VK → Prop) : Prop := ∀ {F H : Hp} {Q : VK} {l : Addr} {ws vs : List V} {ys xs : List D} {z : D × List D},
  Ex F H → H l = some (.lst ws) → RelAll K F ws ys → RelAll K F vs xs → f ys xs = some z → (∀ v ws', Rel K F v z.1 → RelAll K F ws' z.2 → Q v (upd H l (.lst ws'))) → r (.ref l) vs H Q
def ownL : Option SV → Option (Bool × List D)
  | some (.own b (.lst ys)) => some (b, ys)
  | _ => none
def mutE (f : List D → List D → Option (D × List D)) (fo : SE) (fa : SA) : SE := fun env => bindE (fo env) fun a env1 => match a with
  | .cv i => (ownL env1[i]?).bind fun _ => bindA (fa env1) fun as env2 => (frzs as env2).bind fun p => (ownL p.2[i]?).bind fun o => (f o.2 p.1).map fun q => Re.ok (.d q.1) (p.2.set i (.own o.1 (.lst q.2)))
  | _ => none
theorem ownL_some {s : Option SV} {b : Bool} {ys : List D} (h : ownL s = some (b, ys)) : s = some (.own b (.lst ys)) := by
  cases s with
  | none => cases h
  | some s =>
    cases s with
    | own b c =>
      cases c with
      | lst _ => cases h; rfl
      | dct _ _ => cases h
      | dcu _ _ => cases h
      | ins _ _ _ => cases h
    | un => cases h
    | xn _ => cases h
    | d x => cases h
theorem dE_mut {f : List D → List D → Option (D × List D)} {r : V → List V → Hp → VK → Prop} {fo : SE} {fa : SA} (hs : SndU K f r) (h : dE K W (mutE f fo fa) σ H Q) : tBM K "list" r (dE K W fo) (dA K W fa) σ H Q := by
  obtain ⟨env, F, R, S, q⟩ := of_dE h
  refine dE_of S (atE_bind q fun a env1 F1 v H1 e1 S1 rv q1 => ?_)
  obtain ⟨r', e, p⟩ := q1
  cases a with
  | d x => cases e
  | own c => cases e
  | cv i =>
    have rv : σ[i]? = some (some v) := rv
    have e : ((ownL env1[i]?).bind fun _ => bindA (fa env1) fun as env2 => (frzs as env2).bind fun p => (ownL p.2[i]?).bind fun o => (f o.2 p.1).map fun q => Re.ok (.d q.1) (p.2.set i (.own o.1 (.lst q.2)))) = some r' := e
    rw [Option.bind_eq_some_iff] at e
    obtain ⟨⟨b0, y0⟩, h1, e⟩ := e
    obtain ⟨p0, o0, z1, _, _, z4, ws0, rfl, _⟩ := S1.own i _ _ (ownL_some h1)
    rw [rv] at z1
    cases z1
    refine ⟨.inl ⟨rfl, ws0, .inl (Rd.of z4)⟩, ?_⟩
    rcases bindA_inv e with ⟨as, env2, h2, h3⟩ | ⟨x, env2, h2, rfl⟩
    · rw [Option.bind_eq_some_iff] at h3
      obtain ⟨⟨xs, env3⟩, h4, h3⟩ := h3
      rw [Option.bind_eq_some_iff] at h3
      obtain ⟨⟨b, ys⟩, h5, h3⟩ := h3
      rw [Option.map_eq_some_iff] at h3
      obtain ⟨⟨d, zs⟩, h6, rfl⟩ := h3
      refine ⟨env1, F1, R, _, S1, h2, fun vs F2 H2 R2 e2 eR2 S2 hv => ?_⟩
      obtain ⟨F3, R3, e3, eR3, S3, rr⟩ := frzs_held eR2 S2 hv h4
      have S4 := S3.unhold eR3
      have h5 := ownL_some h5
      obtain ⟨p1, o1, z1, z2, z3, z4, ws, rfl, z5⟩ := S4.own i _ _ h5
      rw [rv] at z1
      cases z1
      exact hs S4.sub z4 z5 rr h6 fun v ws' r1 r2 => p v F3 _ (e2.trans e3) (S4.mut h5 rv ⟨ws', rfl, r2⟩) r1
    · exact ⟨env1, F1, R, _, S1, h2, p⟩
end
def appU : List D → List D → Option (D × List D)
  | ys, [x] => if ys.length < 100000 then some (.non, ys ++ [x]) else none
  | _, _ => none
theorem rel1 {K : PySem.W.Frag} {F : Hp} {vs : List V} {x : D} (h : RelAll K F vs [x]) : ∃ v, vs = [v] ∧ Rel K F v x := by
  cases h with
  | cons a b => cases b; exact ⟨_, rfl, a⟩
theorem snd_app {K : PySem.W.Frag} : SndU K appU rAppend := by
  intro F H Q l ws vs ys xs z eF hl rw' rv e q
  match xs, rv, e with
  | [x], rv, e =>
    obtain ⟨c, rfl⟩ := some_if e
    obtain ⟨v, rfl, r⟩ := rel1 rv
    refine ⟨l, ws, v, rfl, rfl, hl, ?_, q .non _ .non (rw'.app (.cons r .nil))⟩
    rw [rw'.len]
    exact Nat.lt_of_lt_of_le c (by decide)
section
variable {X : Cx} {W : WX} {o e : Expr} {es : List Expr} {fo : SE} {fa : SA} {apos pos : Pos} {id : String} {name : Str} {f : List D → List D → Option (D × List D)} {r : V → List V → Hp → VK → Prop}
theorem pd_mut (slot : Slot "list" name id) (hty : typeOf (.builtin id) = pure (.type "method_descriptor")) (hm : MtR X id r) (hs : SndU X.K f r) (ho : PE X o (dE X.K W fo)) (ha : PA X (e :: es) (dA X.K W fa))
    (hbase : attributeBase o name X.env (eval o X.env) = eval o X.env := by rfl)
    (hfew : ((backTo pos (starEach (e :: es) X.env)).all (fun x => !x.1) && (backToKw pos (keywordEach [] X.env)).all (fun x => x.1.isSome)
      && decide ((e :: es).length + ([] : List Keyword).length + (if ([] : List Keyword).isEmpty then 0 else 1) < 30)) = true := by rfl)
    (hline : (apos.endLine == pos.line) = true := by rfl) (hs' : starEach (e :: es) X.env = (false, eval e X.env) :: starEach es X.env := by rfl) (hplain : (backTo pos (starEach es X.env)).any (·.1) = false := by rfl) :
    PE X (.Call (.Attribute o name apos) (e :: es) [] pos) (dE X.K W (mutE f fo fa)) := (pe_bm F.plainAttrs_list slot hty hm ho ha hbase hfew hline hs' hplain).wk fun _ _ _ q => dE_mut hs q
theorem pd_append (ho : PE X o (dE X.K W fo)) (ha : PA X [e] (dA X.K W fa)) (hbase : attributeBase o "append" X.env (eval o X.env) = eval o X.env := by rfl)
    (hfew : ((backTo pos (starEach [e] X.env)).all (fun x => !x.1) && (backToKw pos (keywordEach [] X.env)).all (fun x => x.1.isSome)
      && decide ([e].length + ([] : List Keyword).length + (if ([] : List Keyword).isEmpty then 0 else 1) < 30)) = true := by rfl)
    (hline : (apos.endLine == pos.line) = true := by rfl) (hs' : starEach [e] X.env = (false, eval e X.env) :: starEach [] X.env := by rfl) (hplain : (backTo pos (starEach [] X.env)).any (·.1) = false := by rfl) :
    PE X (.Call (.Attribute o "append" apos) [e] [] pos) (dE X.K W (mutE appU fo fa)) := pd_mut F.slot_list_append F.type_list_append mt_append snd_app ho ha hbase hfew hline hs' hplain
end
end
end Dw
namespace Dw
noncomputable section
open PySem PySem.Spec PyProof.Rows L2
variable [Glo] [Tabs]
def rLtD (K : PySem.W.Frag) : R2 := fun x y H Q => ∃ d e, Dp K H x d ∧ Dp K H y e ∧ PySem.W.alike d e = true ∧ d ≠ .none ∧ d.depth ≤ 64 ∧ Q (.bl (PySem.W.dataLt d e)) H
theorem op_ltD {X : Cx} (hu : X.A.units + 64 < cLine) : OpR X (compareOp .Lt) (rLtD X.K) := by
  intro pins s σ H x y v u Q I rx ry h
  obtain ⟨d, e, hd, he, ha, hn, hz, q⟩ := h
  obtain ⟨as, r1⟩ := Dp.reads I d x v hd rx
  obtain ⟨bs, r2⟩ := Dp.reads I e y u he ry
  exact PySem.W.rcLt_alike d e X.A s v u as bs r1 r2 ha hn (by omega) X.prog X.w _ _ ⟨.bl _, H, I, rfl, q⟩
mutual
def ltB : D → D → Bool
  | .bl a, .bl b => decide (b2i a < b2i b)
  | .int a, .int b => decide (a < b)
  | .str a, .str b => decide (a < b)
  | .lst a, .lst b => ltBs a b
  | .tup a, .tup b => ltBs a b
  | _, _ => false
def ltBs : List D → List D → Bool
  | x :: xs, y :: ys => if eqB x y then ltBs xs ys else ltB x y
  | [], _ :: _ => true
  | _, [] => false
end
mutual
def alk : D → D → Bool
  | .non, .non => true
  | .bl _, .bl _ => true
  | .int _, .int _ => true
  | .str _, .str _ => true
  | .lst a, .lst b => alks a b
  | .tup a, .tup b => alks a b
  | _, _ => false
def alks : List D → List D → Bool
  | x :: xs, y :: ys => alk x y && alks xs ys
  | _, _ => true
end
mutual
theorem alk_py : ∀ x y : D, PySem.W.alike (py x) (py y) = alk x y
  | .non, y => by cases y <;> simp [py, PySem.W.alike, alk]
  | .bl _, y => by cases y <;> simp [py, PySem.W.alike, alk]
  | .int _, y => by cases y <;> simp [py, PySem.W.alike, alk]
  | .str _, y => by cases y <;> simp [py, PySem.W.alike, alk]
  | .lst xs, y => by
    cases y with
    | lst ys => simp [py, PySem.W.alike, alk, alks_py xs ys]
    | _ => simp [py, PySem.W.alike, alk]
  | .tup xs, y => by
    cases y with
    | tup ys => simp [py, PySem.W.alike, alk, alks_py xs ys]
    | _ => simp [py, PySem.W.alike, alk]
  | .dct _ _, y => by cases y <;> simp [py, PySem.W.alike, alk]
  | .dcu _ _, y => by cases y <;> simp [py, PySem.W.alike, alk]
  | .ins _ _ _, y => by cases y <;> simp [py, PySem.W.alike, alk]
theorem alks_py : ∀ xs ys : List D, PySem.W.alikeAll (pys xs) (pys ys) = alks xs ys
  | [], ys => by cases ys <;> simp [pys, PySem.W.alikeAll, alks]
  | _ :: _, [] => by simp [pys, PySem.W.alikeAll, alks]
  | x :: xs, y :: ys => by simp [pys, PySem.W.alikeAll, alks, alk_py x y, alks_py xs ys]
end
mutual
theorem ltB_py : ∀ x y : D, alk x y = true → x ≠ .non → PySem.W.dataLt (py x) (py y) = ltB x y
  | .non, y, _, h => absurd rfl h
  | .bl a, y, h, _ => by
    cases y <;> first | (simp [alk] at h; done) | skip
    exact PySem.W.dataLt_bool _ _
  | .int a, y, h, _ => by
    cases y <;> first | (simp [alk] at h; done) | skip
    exact PySem.W.dataLt_int _ _
  | .str a, y, h, _ => by
    cases y <;> first | (simp [alk] at h; done) | skip
    exact PySem.W.dataLt_str _ _
  | .lst xs, y, h, _ => by
    cases y <;> first | (simp [alk] at h; done) | skip
    rename_i ys
    rw [alk] at h
    rw [py, py, PySem.W.dataLt_list, ltB, ltBs_py xs ys h]
  | .tup xs, y, h, _ => by
    cases y <;> first | (simp [alk] at h; done) | skip
    rename_i ys
    rw [alk] at h
    rw [py, py, PySem.W.dataLt_tuple, ltB, ltBs_py xs ys h]
theorem ltBs_py : ∀ xs ys : List D, alks xs ys = true → PyProof.Rows.lexLt PyProof.Rows.itemOrd (PySem.W.keyToksAll (pys xs)) (PySem.W.keyToksAll (pys ys)) = ltBs xs ys
  | [], [], _ => by simp [pys, PySem.W.keyToksAll, ltBs, PyProof.Rows.lex_irrefl]
  | [], y :: ys, _ => by
    rw [pys, pys, PySem.W.toks_all_cons]
    simp only [PySem.W.keyToksAll]
    rw [PyProof.Rows.lex_diff (O := PyProof.Rows.itemOrd) (by simp)]
    simp [PyProof.Rows.itemLt, ltBs]
  | x :: xs, [], _ => by
    rw [pys, pys, PySem.W.toks_all_cons]
    simp only [PySem.W.keyToksAll]
    rw [PyProof.Rows.lex_diff (O := PyProof.Rows.itemOrd) (by simp)]
    simp [PyProof.Rows.itemLt, ltBs]
  | x :: xs, y :: ys, h => by
    rw [alks, Bool.and_eq_true] at h
    rw [pys, pys, ltBs]
    have ha : PySem.W.alike (py x) (py y) = true := by rw [alk_py]; exact h.1
    cases e : eqB x y with
    | true => rw [if_pos rfl, PySem.W.dataLt_all_yes ha (by rw [eqv_py]; exact e), ltBs_py xs ys h.2]
    | false =>
      rw [if_neg Bool.false_ne_true, PySem.W.dataLt_all_no ha (by rw [eqv_py]; exact e)]
      exact ltB_py x y h.1 fun z => by
        subst z
        cases y <;> first | (simp [alk] at h; done) | skip
        simp [eqB] at e
end
def seqD : D → Bool
  | .lst _ => true
  | .tup _ => true
  | _ => false
def ltG (x y : D) : Option RV := match x, y with
  | .int i, .int j => some (.d (.bl (decide (i < j))))
  | .str x, .str y => some (.d (.bl (decide (x < y))))
  | x, y => if ((seqD x && alk x y) && (dpl x && dpl y)) && decide ((py x).depth ≤ 64) then some (.d (.bl (ltB x y))) else none
def rLtG (K : PySem.W.Frag) : R2 := rOr rLtAny (rLtD K)
theorem snd_ltG {K : PySem.W.Frag} : Snd2 K ltG (rLtG K) := by
  intro W F R σ H env Q x y v w z S hx hy e p
  have go : (if ((seqD x && alk x y) && (dpl x && dpl y)) && decide ((py x).depth ≤ 64) then some (RV.d (.bl (ltB x y))) else none) = some z → rLtG K v w H Q := fun e => by
    obtain ⟨c, rfl⟩ := some_if e
    rw [Bool.and_eq_true, Bool.and_eq_true, Bool.and_eq_true, Bool.and_eq_true, decide_eq_true_eq] at c
    have hn : x ≠ .non := fun z => by subst z; simp [seqD] at c
    refine .inr ⟨py x, py y, (hx.rel S.sub).dp _ c.1.2.1, (hy.rel S.sub).dp _ c.1.2.2, by rw [alk_py]; exact c.1.1.2, fun z => ?_, c.2, ?_⟩
    · cases x <;> first | exact hn rfl | (simp [py] at z)
    · rw [ltB_py x y c.1.1.2 hn]
      exact post_d S p (.bl _)
  cases x with
  | int i =>
    cases y with
    | int j => exact .inl (snd_lt S hx hy e p)
    | _ => exact go e
  | str i =>
    cases y with
    | str j => exact .inl (snd_lt S hx hy e p)
    | _ => exact go e
  | _ => exact go e
theorem bl_ltG {x y : D} {z : RV} (h : ltG x y = some z) : ∃ b, z = .d (.bl b) := by
  have go : (if ((seqD x && alk x y) && (dpl x && dpl y)) && decide ((py x).depth ≤ 64) then some (RV.d (.bl (ltB x y))) else none) = some z → ∃ b, z = .d (.bl b) := fun e => by
    obtain ⟨c, rfl⟩ := some_if e
    exact ⟨_, rfl⟩
  cases x with
  | int i =>
    cases y with
    | int j => cases h; exact ⟨_, rfl⟩
    | _ => exact go h
  | str i =>
    cases y with
    | str j => cases h; exact ⟨_, rfl⟩
    | _ => exact go h
  | _ => exact go h
section
variable {X : Cx} {W : WX} {a b : Expr} {fa fb : SE} {pos : Pos}
theorem pd_ltg (hu : X.A.units + 64 < cLine) (ha : PE X a (dE X.K W fa)) (hb : PE X b (dE X.K W fb)) : PE X (.Compare a [.Lt] [b] pos) (dE X.K W (two (op2 ltG) fa fb)) := pd_cmp (OpR.or (OpR.or op_lt op_lt_str) (op_ltD hu)) snd_ltG (nomark _) ha hb
theorem pt_ltg (hu : X.A.units + 64 < cLine) (ha : PE X a (dE X.K W fa)) (hb : PE X b (dE X.K W fb)) : PT X (.Compare a [.Lt] [b] pos) (dT X.K W (two (op2 ltG) fa fb)) := pt_dcmp (OpR.or (OpR.or op_lt op_lt_str) (op_ltD hu)) snd_ltG (fun _ _ _ => bl_ltG) (nomark _) ha hb
end
def negD : D → Option RV
  | .int i => some (.d (.int (-i)))
  | _ => none
def oneE (f : D → Option RV) (fa : SE) : SE := fun env => bindE (fa env) fun a env1 => (pk a env1).bind fun x => (f x).map (Re.ok · env1)
def noX : Option FR → Option FR
  | some (.ok a o) => some (.ok a o)
  | _ => none
def defM (np n : Nat) (body : SS) (args : List SV) : Option FR := if args.length = np then noX (runF n body args) else none
theorem defM_len {np n : Nat} {body : SS} : ∀ as fr, defM np n body as = some fr → as.length = np := fun as fr h => by
  unfold defM at h
  by_cases c : as.length = np
  · exact c
  · rw [if_neg c] at h; cases h
section
variable {P : Program} {w : World} {K : PySem.W.Frag} {mg : Str → Option Value} {base : Heap}
theorem fnd {x qual : Str} {st : Stmt} {f : Addr} {fd : FuncData} {N ps : List Str} {k n : Nat} {body : SS} (F : Fun K x qual st f fd) (S : FnScope N ps (defScope st)) (hn : N.length = ps.length + n)
    (hb : ∀ (cdv : Value) (A : Around) (outer : List Env) (s : Shared) (H : Hp) (E : XK), Room k (A.deeper (envOfC qual (defScope st) s.heap.objs.size f cdv)) → PSs (cxOf CX0 P w K mg base N qual (defScope st) f cdv A outer s H E).nox (defBody st) (dS K W0 body)) :
    FnOk P w K mg base CX0 (k + 1) f fd ps (spD K ps.length (defM ps.length n body)) := (fnd_ok (n := n) F S hn fun cdv _ => hb cdv).imp fun vs H Q E h => by
  obtain ⟨F, R, args, r, h1, h2, h3, h4⟩ := h
  refine ⟨F, R, args, r, h1, h2, ?_, h4⟩
  unfold defM at h3
  rw [if_pos h1] at h3
  exact h3
end
end
end Dw
namespace Dw
noncomputable section
open PySem PySem.Spec PyProof.Rows L2
variable [Glo] [Tabs]
section
variable {X : Cx} {W : WX} {a : Expr} {fa : SE} {pos : Pos}
theorem snd_neg {K : PySem.W.Frag} {F : Hp} {R : Fm} {σ : L2.St} {H : Hp} {env : Sl} {Q : VK} {x : D} {v : V} {z : RV} (S : Sta K F R σ H env) (hx : Vw K F H v x) (e : negD x = some z) (p : PostE K W F R σ (.ok z env) Q) : rU (fun i => .int (-i)) v H Q := by
  cases x with
  | int i =>
    cases hx
    cases e
    exact ⟨i, rfl, post_d S p (.int _)⟩
  | _ => cases e
theorem pd_neg (ha : PE X a (dE X.K W fa)) : PE X (.UnaryOp .USub a pos) (dE X.K W (oneE negD fa)) := (pe_un un_neg ha).wk fun σ H Q q =>
  dE_one q fun a env F R v H1 S rv q => by
    obtain ⟨r, e1, p1⟩ := q
    rw [Option.bind_eq_some_iff] at e1
    obtain ⟨x, hx, e1⟩ := e1
    rw [Option.map_eq_some_iff] at e1
    obtain ⟨z, hz, rfl⟩ := e1
    exact snd_neg S (pk_vw S rv hx) hz p1
end
def blkB (N : List Str) (sc scope : Scope) (own : List (Str × Nat)) : Bool :=
  decide (scope.kind = .function) && scope.names.all (fun y => decide (scope.names.lookup y.1 = some y.2)) && own.all (fun p => decide (N[p.2]? = some p.1)) &&
  scope.names.all (fun y => !decide (y.2 = .free) || decide (sc.names.lookup y.1 = some .cell) || decide (sc.names.lookup y.1 = some .free)) &&
  scope.names.all (fun y => !(decide (y.2 = .local) || decide (y.2 = .cell)) || decide (y.1 ∈ own.map (·.1)) || decide (y.1 ∉ N))
theorem blk_of {N : List Str} {sc scope : Scope} {own : List (Str × Nat)} (h : blkB N sc scope own = true) : BlkOk N sc scope own := by
  unfold blkB at h
  simp only [Bool.and_eq_true, decide_eq_true_eq, List.all_eq_true, Bool.or_eq_true, Bool.not_eq_true', decide_eq_false_iff_not, Bool.or_eq_false_iff] at h
  obtain ⟨⟨⟨⟨h1, h2⟩, h3⟩, h4⟩, h5⟩ := h
  refine ⟨h1, h2, h3, fun y hy hf => ?_, fun y hy hf => ?_⟩
  · rcases h4 y hy with (h | h) | h
    · exact absurd hf h
    · exact .inl h
    · exact .inr h
  · rcases h5 y hy with (h | h) | h
    · rcases hf with hf | hf
      · exact absurd hf h.1
      · exact absurd hf h.2
    · exact .inl h
    · exact .inr h
structure Def (P : Program) (w : World) (K : PySem.W.Frag) (mg : Str → Option Value) (base : Heap) (k : Nat) (x : Str) (np : Nat) (m : List SV → Option FR) (dfs : List D) : Prop where
  ex : ∃ (f : Addr) (fd : FuncData) (ps : List Str) (ds : List Value) (dvs : List V), FnOk P w K mg base CX0 k f fd ps (spD K np m) ∧ mg x = some (.ref f) ∧ PySem.W.keepIn K (.ref f) = true ∧ Binds K fd ps ds ∧ Vals dvs ds ∧ (∀ F : Hp, RelAll K F dvs dfs) ∧ ∀ as fr, m as = some fr → as.length = np
theorem Def.mk0 {P : Program} {w : World} {K : PySem.W.Frag} {mg : Str → Option Value} {base : Heap} {k : Nat} {x : Str} {np n : Nat} {body : SS} {f : Addr} {fd : FuncData} {ps : List Str} (F : FnOk P w K mg base CX0 k f fd ps (spD K np (defM np n body))) (hm : mg x = some (.ref f)) (hk : PySem.W.keepIn K (.ref f) = true) (hb : Binds K fd ps []) : Def P w K mg base k x np (defM np n body) [] :=
  ⟨f, fd, ps, [], [], F, hm, hk, hb, .nil, fun _ => .nil, defM_len⟩
theorem r65 {k : Nat} {A : Around} (hr : Room k A) : A.units + 65 < cLine := by have := hr.un; omega
theorem pd_callN {X : Cx} {W : WX} {k j : Nat} {x : Str} {np : Nat} {m : List SV → Option FR} {dfs : List D} {fa : SA} {p pos : Pos} {e : Expr} {es : List Expr} (C : Def X.prog X.w X.K X.mg X.base k x np m dfs) (hr : Room j X.A) (hj : k ≤ j) (ha : PA X (e :: es) (dA X.K W fa)) (hg : Gl X x := by rfl)
    (hdb : (x == ("__debug__" : Str)) = false := by decide) (he : starEach (e :: es) X.env = (false, eval e X.env) :: starEach es X.env := by rfl) (hpl : (backTo pos (starEach es X.env)).any (·.1) = false := by rfl) :
    PE X (.Call (.Name x p) (e :: es) [] pos) (dE X.K W (callD m dfs fa)) := by
  obtain ⟨f, fd, ps, ds, dvs, h1, h2, h3, h4, h5, h6, h7⟩ := C.ex
  exact pd_call h1 (hr.mono hj) h2 h3 h4 h5 (fun σ pins H s e s' I c => c.elim) h6 h7 ha hg hdb he hpl
def Fm0 : Fm := ⟨fun _ => none, fun _ => 0, fun _ => False⟩
theorem fm0 {b : Addr} {u : HO} {p : Prop} (q : Fm0.r b = some u) : p := by
  have q : (none : Option HO) = some u := q
  cases q
theorem law_sp {K : PySem.W.Frag} {H : Hp} {a : Addr} {ns : List Int} {m : List SV → Option FR} {o : List SV} {E : XK} (hT : ∀ P, Tabs.T P → H P = some (.tbl #[])) (hS : SqL K H a (ns.map V.int)) (h : m [.d (.lst (ns.map .int))] = some (.ok (.d (.bl true)) o)) : spD K 1 m [.ref a] H (fun v _ => v = .bl true) E := by
  classical
  have hF : ∀ b, Tabs.T b → (fun b => if Tabs.T b then none else H b : Hp) b = none := fun b q => if_pos q
  have hG : ∀ b u, (fun b => if Tabs.T b then none else H b : Hp) b = some u → H b = some u := fun b u q => by
    by_cases z : Tabs.T b
    · rw [hF b z] at q; cases q
    · have q : (if Tabs.T b then none else H b) = some u := q
      rwa [if_neg z] at q
  have hS2 : SqL K (fun b => if Tabs.T b then none else H b : Hp) a (ns.map V.int) := by
    have nt : (∀ ps, H a ≠ some (.tbl ps)) → (fun b => if Tabs.T b then none else H b : Hp) a = H a := fun q => if_neg fun z => by
      exact q _ (hT a z)
    rcases hS with hS | hS
    · refine .inl ?_
      rcases hS with e | ⟨ob, e⟩
      · exact .inl ((nt fun ps z => by rw [e] at z; cases z).trans e)
      · exact .inr ⟨ob, (nt fun ps z => by rw [e] at z; cases z).trans e⟩
    · exact .inr hS
  refine ⟨_, Fm0, [.d (.lst (ns.map .int))], _, rfl, ⟨hG, fun b u q => fm0 q, fun b u q => fm0 q, rfl, fun i x e => ?_, fun i b c e => ?_, fun i c e => ?_, fun i j bi ci bj cj p h1 _ _ _ => ?_, fun i x e => (by rcases i with _ | i <;> simp at e), fun P h => ⟨⟨_, hT P h, trivial, fun q _ pos cv hc => by unfold codeAmong at hc; cases hc⟩, hF P h, rfl⟩⟩, h, fun v F' H' _ _ rv => ?_⟩
  · match i, e with
    | 0, e =>
      cases e
      exact ⟨_, rfl, .lst hS2 (RelAll.ints ns)⟩
  · match i, e with
    | 0, e => cases e
  · match i, e with
    | 0, e => cases e
  · match i, h1 with
    | 0, e => cases e
  · have rv : Rel K F' v (.bl true) := rv
    cases rv
    rfl
end
end Dw
namespace Dw
noncomputable section
open PySem PySem.Spec PyProof.Rows L2
variable [Glo] [Tabs]
section
variable {env env1 env2 env3 : Sl} {a b : RV} {x y : D} {z : RV} {i : Nat} {f : D → D → Option RV} {fa fb fc fo : SE} {as : List RV} {fr fs : SA} {xs ys : List D} {r : Re}
@[simp] theorem ev_const : constE x env = some (.ok (.d x) env) := rfl
theorem ev_var (h : env[i]? = some (.d x)) : varE i env = some (.ok (.d x) env) := by unfold varE; rw [h]; rfl
theorem ev_varO {c : C} {t : Bool} (h : env[i]? = some (.own t c)) : varE i env = some (.ok (.cv i) env) := by unfold varE; rw [h]; rfl
theorem ev_two (h1 : fa env = some (.ok a env1)) (h2 : fb env1 = some (.ok b env2)) (h3 : pk a env2 = some x) (h4 : pk b env2 = some y) (h5 : f x y = some z) : two (op2 f) fa fb env = some (.ok z env2) := by
  unfold two; rw [h1, bindE_ok, h2, bindE_ok]; unfold op2; rw [h3, h4]; show (f x y).map _ = _; rw [h5]; rfl
theorem ev_one {g : D → Option RV} (h1 : fa env = some (.ok a env1)) (h3 : pk a env1 = some x) (h5 : g x = some z) : oneE g fa env = some (.ok z env1) := by
  unfold oneE; rw [h1, bindE_ok, h3, Option.bind_some, h5]; rfl
theorem pk_d : pk (.d x) env = some x := rfl
theorem pk_own : pk (.own (.lst xs)) env = some (.lst xs) := rfl
theorem pk_cv {t : Bool} (h : env[i]? = some (.own t (.lst xs))) : pk (.cv i) env = some (.lst xs) := by unfold pk; dsimp only; rw [h]; rfl
theorem ev_nil : nilA env = some (.ok [] env) := rfl
theorem ev_cons (h1 : fa env = some (.ok a env1)) (h2 : fs env1 = some (.ok as env2)) : consA fa fs env = some (.ok (a :: as) env2) := by
  unfold consA; rw [h1, bindEA_ok, h2]; rfl
theorem pks_nil : pks [] env = some [] := rfl
theorem pks_cons (h1 : pk a env = some x) (h2 : pks as env = some xs) : pks (a :: as) env = some (x :: xs) := by
  unfold pks; rw [h1, Option.bind_some, h2]; rfl
theorem ev_callE {g : List D → Option RV} (h1 : fs env = some (.ok as env1)) (h2 : pks as env1 = some xs) (h3 : g xs = some z) : callE g fs env = some (.ok z env1) := by
  unfold callE; rw [h1, bindA_ok, h2, Option.bind_some, h3]; rfl
theorem ev_isi {n : String} (h1 : fa env = some (.ok a env1)) (h2 : pk a env1 = some x) (o : okI x = true := by rfl) : isiE n fa env = some (.ok (.d (.bl (isiD n x))) env1) := by
  unfold isiE; rw [h1, bindE_ok, h2, Option.bind_some]; exact if_pos o
theorem frz_d : frz (.d x) env = some (x, env) := rfl
theorem frz_own : frz (.own (.lst xs)) env = some (.lst xs, env) := rfl
theorem frz_cv (h : env[i]? = some (.own false (.lst xs))) (h2 : env.set i (.d (.lst xs)) = env1) : frz (.cv i) env = some (.lst xs, env1) := by subst h2; unfold frz; dsimp only; rw [h]; rfl
theorem frzs_nil : frzs [] env = some ([], env) := rfl
theorem frzs_cons (h1 : frz a env = some (x, env1)) (h2 : frzs as env1 = some (xs, env2)) : frzs (a :: as) env = some (x :: xs, env2) := by
  unfold frzs; rw [h1, Option.bind_some, h2]; rfl
theorem ev_tup (h1 : fs env = some (.ok as env1)) (h2 : frzs as env1 = some (xs, env2)) (h3 : xs.length ≤ 100000) : tupE fs env = some (.ok (.d (.tup xs)) env2) := by
  unfold tupE; rw [h1, bindA_ok, h2, Option.bind_some]; exact if_pos h3
theorem ev_lst (h1 : fs env = some (.ok as env1)) (h2 : frzs as env1 = some (xs, env2)) (h3 : xs.length ≤ 100000) : lstE fs env = some (.ok (.own (.lst xs)) env2) := by
  unfold lstE; rw [h1, bindA_ok, h2, Option.bind_some]; exact if_pos h3
/-- a call of a def -/
theorem ev_callD {m : List SV → Option FR} {ds : List D} {o vs : List SV} {a' : RV} (h1 : fs env = some (.ok as env1)) (h2 : frzs as env1 = some (xs, env2)) (he : (xs ++ ds).map SV.d = vs) (h3 : m vs = some (.ok a' o)) (h4 : retV a' = some b) : callD m ds fs env = some (.ok b env2) := by
  subst he
  unfold callD; rw [h1, bindA_ok, h2, Option.bind_some, h3]; show (retV a').map _ = _; rw [h4]; rfl
theorem ret_d : retV (.d x) = some (.d x) := rfl
theorem ret_own {c : C} : retV (.own c) = some (.own c) := rfl
theorem mapd_nn : (([] : List D) ++ []).map SV.d = [] := rfl
theorem mapd_c {ds : List D} {vs : List SV} (h : (xs ++ ds).map SV.d = vs) : ((x :: xs) ++ ds).map SV.d = .d x :: vs := by subst h; rfl
theorem mapd_d {ds : List D} {vs : List SV} (h : (([] : List D) ++ ds).map SV.d = vs) : (([] : List D) ++ (x :: ds)).map SV.d = .d x :: vs := by subst h; rfl
theorem tru_bl {t : Bool} : tru (.d (.bl t)) env = some t := rfl
theorem ev_not {t : Bool} (h1 : fa env = some (.ok a env1)) (h2 : tru a env1 = some t) : notE fa env = some (.ok (.d (.bl (!t))) env1) := by
  unfold notE; rw [h1, bindE_ok, h2]; rfl
theorem ev_andT (h1 : fa env = some (.ok a env1)) (h2 : tru a env1 = some true) (h3 : fb env1 = some r) : andE fa fb env = some r := by
  unfold andE; rw [h1, bindE_ok, h2]; exact h3
theorem ev_andF (h1 : fa env = some (.ok a env1)) (h2 : tru a env1 = some false) : andE fa fb env = some (.ok a env1) := by
  unfold andE; rw [h1, bindE_ok, h2]
theorem ev_orF (h1 : fa env = some (.ok a env1)) (h2 : tru a env1 = some false) (h3 : fb env1 = some r) : orE fa fb env = some r := by
  unfold orE; rw [h1, bindE_ok, h2]; exact h3
theorem ev_orT (h1 : fa env = some (.ok a env1)) (h2 : tru a env1 = some true) : orE fa fb env = some (.ok a env1) := by
  unfold orE; rw [h1, bindE_ok, h2]
/-- and, or of two truth values -/
theorem ev_andB {t u : Bool} (h1 : fa env = some (.ok (.d (.bl t)) env)) (h3 : fb env = some (.ok (.d (.bl u)) env)) : andE fa fb env = some (.ok (.d (.bl (t && u))) env) := by
  cases t with
  | true => exact ev_andT h1 rfl h3
  | false => exact ev_andF h1 rfl
theorem ev_orB {t u : Bool} (h1 : fa env = some (.ok (.d (.bl t)) env)) (h3 : fb env = some (.ok (.d (.bl u)) env)) : orE fa fb env = some (.ok (.d (.bl (t || u))) env) := by
  cases t with
  | true => exact ev_orT h1 rfl
  | false => exact ev_orF h1 rfl h3
theorem ev_met {T : String} {g : D → List D → Option RV} (h1 : fo env = some (.ok a env1)) (h2 : pk a env1 = some x) (h3 : tyD x = T) (h4 : fs env1 = some (.ok as env2)) (h5 : pk a env2 = some y) (h6 : pks as env2 = some xs) (h7 : g y xs = some z) : metE T g fo fs env = some (.ok z env2) := by
  unfold metE; rw [h1, bindE_ok, h2, Option.bind_some, if_pos h3, h4, bindA_ok, h5, Option.bind_some, h6, Option.bind_some, h7]; rfl
theorem ev_mut {g : List D → List D → Option (D × List D)} {t t2 : Bool} {ys0 : C} {ys2 zs : List D} {env4 : Sl} (h1 : fo env = some (.ok (.cv i) env1)) (h2 : env1[i]? = some (.own t ys0)) (h2' : ys0 = .lst ys) (h4 : fs env1 = some (.ok as env2)) (h5 : frzs as env2 = some (xs, env3)) (h6 : env3[i]? = some (.own t2 (.lst ys2))) (h7 : g ys2 xs = some (x, zs)) (h8 : env3.set i (.own t2 (.lst zs)) = env4) :
    mutE g fo fs env = some (.ok (.d x) env4) := by
  subst h2' h8
  unfold mutE; rw [h1, bindE_ok]; dsimp only; rw [h2]; show (some (t, ys)).bind _ = _; rw [Option.bind_some, h4, bindA_ok, h5, Option.bind_some]; dsimp only; rw [h6]; show (some (t2, ys2)).bind _ = _; rw [Option.bind_some]; dsimp only; rw [h7]; rfl
end
section
variable {env env1 env2 : Sl} {f g : SS} {fe fc : SE} {a : RV} {x : D} {i : Nat} {o : Out} {tg : Tg} {body : SS} {fi : SI} {xs ys : List D} {fa : SA} {as : List RV}
theorem ev_seq2 (h : f env = some (.nx env1)) (h2 : g env1 = some o) : seqS f g env = some o := by unfold seqS; rw [h]; exact h2
theorem ev_iteT (h : fc env = some (.ok a env1)) (ht : tru a env1 = some true) (h2 : f env1 = some o) : iteS fc f g env = some o := by
  unfold iteS bindS; rw [h]; dsimp only; rw [ht]; exact h2
theorem ev_iteF (h : fc env = some (.ok a env1)) (ht : tru a env1 = some false) (h2 : g env1 = some o) : iteS fc f g env = some o := by
  unfold iteS bindS; rw [h]; dsimp only; rw [ht]; exact h2
theorem ev_ret (h : fe env = some (.ok a env1)) : retS fe env = some (.rt a env1) := by unfold retS bindS; rw [h]
theorem ev_skip : skipS env = some (.nx env) := rfl
theorem ev_expr (h : fe env = some (.ok a env1)) : exprS fe env = some (.nx env1) := by unfold exprS bindS; rw [h]
theorem ev_asg (h : fe env = some (.ok a env1)) (h2 : storeR i a env1 = some env2) : asgS i fe env = some (.nx env2) := by unfold asgS bindS; rw [h]; dsimp only; rw [h2]; rfl
theorem st_d (h : freeSlot env[i]? = true) (h2 : env.set i (.d x) = env2) : storeR i (.d x) env = some env2 := by subst h2; unfold storeR setSlot; dsimp only; rw [if_pos h]
theorem st_own {c : C} (h : freeSlot env[i]? = true) (h2 : env.set i (.own false c) = env2) : storeR i (.own c) env = some env2 := by subst h2; unfold storeR setSlot; dsimp only; rw [if_pos h]
theorem ty_str {x : List Nat} : tyD (.str x) = "str" := rfl
theorem ty_lst {x : List D} : tyD (.lst x) = "list" := rfl
theorem st_cv {j : Nat} (h : frz (.cv j) env = some (x, env1)) (h2 : freeSlot env1[i]? = true) (h3 : env1.set i (.d x) = env2) : storeR i (.cv j) env = some env2 := by subst h3; unfold storeR; dsimp only; rw [h, Option.bind_some]; unfold setSlot; rw [if_pos h2]
theorem fs_ok {s : Option SV} (h : freeSlot s = true) : freeSlot s = true := h
theorem gE {env : Sl} {i : Nat} {s : SV} (h : env[i]? = some s) : env[i]? = some s := h
theorem lst_eq {ys : List D} : C.lst ys = C.lst ys := rfl
theorem set_z {s t : SV} {l : Sl} : (s :: l).set 0 t = t :: l := rfl
theorem set_s {s t : SV} {l l' : Sl} {n : Nat} (h : l.set n t = l') : (s :: l).set (n + 1) t = s :: l' := by subst h; rfl
theorem ev_for (h : fi env = some (.ok xs env1)) : forS fi tg body env = loopD tg body xs env1 := by unfold forS; rw [h]
theorem ev_src (h : fe env = some (.ok a env1)) (h2 : frz a env1 = some (x, env2)) (h3 : itemsD x = some xs) : srcE fe env = some (.ok xs env2) := by
  unfold srcE; rw [h]; show (frz a env1).bind _ = _; rw [h2, Option.bind_some, h3]; rfl
theorem ev_args {g : List D → Option (List D)} (h : fa env = some (.ok as env1)) (h2 : pks as env1 = some xs) (h3 : g xs = some ys) : argsI g fa env = some (.ok ys env1) := by
  unfold argsI bindAI
  rw [h]
  dsimp only
  rw [h2, Option.bind_some, h3]
  rfl
end
theorem modI_ok {i j : Int} (h : 0 < j) : modI i j = some (i % j) := by unfold modI; rw [if_pos (okP_iff.mpr h)]
theorem fdivI_ok {i j : Int} (h : 0 < j) (h2 : j < 1073741824) : fdivI i j = some (i / j) := by unfold fdivI; rw [if_pos (okP_iff.mpr ⟨h, h2⟩)]
theorem big64_iff {i : Int} : big64 i = true ↔ -(2 ^ 64) < i ∧ i < 2 ^ 64 := okP_iff
theorem mulI_l {i j : Int} (h : big64 i = true) : mulI i j = some (i * j) := by unfold mulI; rw [h]; rfl
theorem mulI_r {i j : Int} (h : big64 j = true) : mulI i j = some (i * j) := by unfold mulI; rw [h, Bool.or_true]; rfl
theorem powI_18 : powI 10 18 = some 1000000000000000000 := by
  unfold powI
  rw [if_pos (okP_iff.mpr ⟨⟨by decide, by decide⟩, by decide⟩)]
  rfl
theorem mod_ok {i j : Int} (h : 0 < j) : modD (.int i) (.int j) = some (.d (.int (i % j))) := by show (modI i j).map _ = _; rw [modI_ok h]; rfl
theorem fdiv_ok {i j : Int} (h : 0 < j) (h2 : j < 1073741824) : fdivD (.int i) (.int j) = some (.d (.int (i / j))) := by show (fdivI i j).map _ = _; rw [fdivI_ok h h2]; rfl
theorem len_str {x : List Nat} (h : x.length ≤ sizeLine) : lenD [.str x] = some (.d (.int x.length)) := if_pos h
theorem len_lst {x : List D} : lenD [.lst x] = some (.d (.int x.length)) := rfl
theorem len_tup {x : List D} : lenD [.tup x] = some (.d (.int x.length)) := rfl
theorem get_str {x : List Nat} {i : Int} {c : Nat} (h : x.length ≤ sizeLine) (h2 : L2.atI x i = some c) : getD (.str x) (.int i) = some (.d (.str [c])) := by
  show (if x.length ≤ sizeLine then _ else none) = _; rw [if_pos h, h2]; rfl
theorem get_lst {x : List D} {i : Int} {c : D} (h2 : L2.atI x i = some c) : getD (.lst x) (.int i) = some (.d c) := by show (L2.atI x i).map _ = _; rw [h2]; rfl
theorem app_ok {xs : List D} {x : D} (h : xs.length < 100000) : appU xs [x] = some (.non, xs ++ [x]) := if_pos h
theorem add_str {x y : List Nat} (h : x.length + y.length ≤ sizeLine) : addD (.str x) (.str y) = some (.d (.str (x ++ y))) := if_pos h
theorem cut_str {x : List Nat} {lo hi : Option Int} (h : x.length ≤ sizeLine) : cutD (.str x) lo hi = some (.d (.str (cutL x lo hi))) := if_pos h
theorem rng1_nat {n : Nat} (h : n ≤ 1000000) : rng1 [.int n] = some ((List.range n).map fun i => .int (i : Nat)) := by
  have q : okP (-(2 ^ 62) ≤ (n : Int) ∧ (n : Int) < 2 ^ 62) = true := okP_iff.mpr (by omega)
  unfold rng1
  dsimp only
  rw [if_pos q]
  rfl
section
variable {i j : Int} {a b : Bool} {x y : List Nat} {c : Nat} {ds es : List D}
theorem eq_int : eqD (.int i) (.int j) = some (.d (.bl (i == j))) := rfl
theorem ne_int : neD (.int i) (.int j) = some (.d (.bl (!(i == j)))) := rfl
theorem eq_str : eqD (.str x) (.str y) = some (.d (.bl (x == y))) := rfl
theorem ne_str : neD (.str x) (.str y) = some (.d (.bl (!(x == y)))) := rfl
theorem eq_bl : eqD (.bl a) (.bl b) = some (.d (.bl (a == b))) := rfl
theorem ne_bl : neD (.bl a) (.bl b) = some (.d (.bl (!(a == b)))) := rfl
theorem lt_int' : ltG (.int i) (.int j) = some (.d (.bl (decide (i < j)))) := rfl
theorem lt_str' : ltG (.str x) (.str y) = some (.d (.bl (decide (x < y)))) := rfl
theorem le_int' : leD (.int i) (.int j) = some (.d (.bl (decide (i ≤ j)))) := rfl
theorem gt_int' : gtD (.int i) (.int j) = some (.d (.bl (decide (j < i)))) := rfl
theorem ge_int' : geD (.int i) (.int j) = some (.d (.bl (decide (j ≤ i)))) := rfl
theorem add_int' : addD (.int i) (.int j) = some (.d (.int (i + j))) := rfl
theorem sub_int' : subD (.int i) (.int j) = some (.d (.int (i - j))) := rfl
theorem neg_int' : negD (.int i) = some (.d (.int (-i))) := rfl
theorem ord_str : ordC [.str [c]] = some (.d (.int c)) := rfl
theorem int_int : intC [.int i] = some (.d (.int i)) := rfl
theorem int_bl : intC [.bl a] = some (.d (.int (b2i a))) := rfl
theorem list_lst : listC [.lst ds] = some (.own (.lst ds)) := rfl
theorem list_tup : listC [.tup ds] = some (.own (.lst ds)) := rfl
theorem tup_lst : tupleC [.lst ds] = some (.d (.tup ds)) := rfl
theorem tup_tup : tupleC [.tup ds] = some (.d (.tup ds)) := rfl
theorem it_lst : itemsD (.lst ds) = some ds := rfl
theorem it_tup : itemsD (.tup ds) = some ds := rfl
theorem it_str : itemsD (.str x) = some (x.map fun c => .str [c]) := rfl
end
/-- a def's meaning, from its body's -/
theorem defM_rt {np n : Nat} {body : SS} {as : List SV} {a : RV} {b : RV} (e0 : Sl) {env : Sl} {o : List SV} (hl : as.length = np) (he : as ++ List.replicate n .un = e0) (h : body e0 = some (.rt a env)) (h2 : resV a env = some b) (h3 : backs as env = some o) : defM np n body as = some (.ok b o) := by
  unfold defM runF; rw [if_pos hl, he, h]; dsimp only; rw [h2, Option.bind_some, h3]; rfl
end
end Dw
namespace Dw
noncomputable section
open PySem PySem.Spec PyProof.Rows L2
variable [Glo] [Tabs]
def textM (g : List Nat → List Nat → Option RV) : D → List D → Option RV
  | .str a, [.str b] => g a b
  | _, _ => none
theorem snd_textM {K : PySem.W.Frag} {g : List Nat → List Nat → Option RV} {r : V → List V → Hp → VK → Prop}
    (h : ∀ {W : WX} {F : Hp} {R : Fm} {σ : L2.St} {H : Hp} {env : Sl} {Q : VK} {a b : List Nat} {z : RV}, Sta K F R σ H env → g a b = some z → PostE K W F R σ (.ok z env) Q → r (.str (mk a)) [.str (mk b)] H Q) : SndM K (textM g) r := by
  intro W F R σ H env Q x v xs vs z S hx hv e p
  cases x with
  | str a =>
    cases hx
    match xs, hv, e with
    | [.str b], hv, e =>
      obtain ⟨w, rfl, hw⟩ := vw1 hv
      cases hw
      exact h S e p
  | _ => cases e
def countL (a b : List Nat) : Option RV := some (.d (.int (Txt.count (mk a) (mk b))))
def rCountS : V → List V → Hp → VK → Prop := fun x xs H Q => ∃ a b, x = .str a ∧ xs = [.str b] ∧ Q (.int (Txt.count a b)) H
theorem snd_count {K : PySem.W.Frag} : SndM K (textM countL) rCountS := snd_textM fun S e p => by
  cases e
  exact ⟨_, _, rfl, rfl, post_d S p (.int _)⟩
def cutTop (a b : List Nat) : List Nat := a.drop (a.takeWhile b.contains).length
theorem conts (b : List Nat) : (mk b).cps.contains = b.contains := by
  funext c
  simp [mk]
theorem lstrip_mk (a b : List Nat) : Txt.lstripChars (mk a) (mk b) = mk (cutTop a b) := by
  unfold Txt.lstripChars
  rw [stripBy_eq, conts]
  unfold cutTop Builtin.Str.strSub stripLo stripHi
  simp [mk, Str.length]
  exact List.take_of_length_le (by rw [List.length_drop]; omega)
def lstripL (a b : List Nat) : Option RV := if a.length ≤ sizeLine then some (.d (.str (cutTop a b))) else none
def rStripS (f : Str → Str → Str) : V → List V → Hp → VK → Prop := fun x xs H Q => ∃ a b, x = .str a ∧ xs = [.str b] ∧ a.length ≤ sizeLine ∧ Q (.str (f a b)) H
theorem snd_lstrip {K : PySem.W.Frag} : SndM K (textM lstripL) (rStripS Txt.lstripChars) := snd_textM fun {W F R σ H env Q a b z} S e p => by
  obtain ⟨c, rfl⟩ := some_if e
  refine ⟨_, _, rfl, rfl, by rw [mk_len]; exact c, ?_⟩
  rw [lstrip_mk]
  exact post_d S p (.str _)
section
variable {X : Cx} {W : WX} {x : Str} {pos : Pos}
theorem pd_cstr {l : List Nat} (h : ∃ t, X.mg x = some (.str (mk l) t)) (hg : Gl X x := by rfl) (hd : (x == ("__debug__" : Str)) = false := by decide) : PE X (.Name x pos) (dE X.K W (constE (.str l))) := by
  obtain ⟨t, h⟩ := h
  exact pd_glob h (v := .str (mk l)) ⟨t, rfl⟩ (fun _ => .str l) hg hd
theorem pd_cint {n : Int} (h : ∃ t, X.mg x = some (.int n t)) (hg : Gl X x := by rfl) (hd : (x == ("__debug__" : Str)) = false := by decide) : PE X (.Name x pos) (dE X.K W (constE (.int n))) := by
  obtain ⟨t, h⟩ := h
  exact pd_glob h (v := .int n) ⟨t, rfl⟩ (fun _ => .int n) hg hd
end
end
end Dw
namespace Dw
noncomputable section
open PySem PySem.Spec PyProof.Rows L2
variable [Glo] [Tabs]
def ItEs (x : Str) : It :=
  ⟨fun i _ => i < x.cps.size, fun i H v H' => ∃ T c, v = .ref T ∧ H T = none ∧ H' = upd H T (.tup [.int (i : Nat), .str ⟨#[c]⟩]) ∧ x.cps[i]? = some c, fun i _ => x.cps.size ≤ i⟩
theorem draws_str {P : Program} {w : World} {A : Around} (hh : A.handled = none) (it : Addr) (x : Str) (t : Tok) : Draws P w A it [it] x.cps.size (fun i v => ∃ c u, x.cps[i]? = some c ∧ v = .str ⟨#[c]⟩ u) (fun i h => h.IsStrIter it (strIterType x) x t i) := by
  unfold strIterType
  split
  · exact Draws.strAscii hh it x t
  · exact Draws.strWide hh it x t
theorem turn_enumS {P : Program} {w : World} {K : PySem.W.Frag} {elts : List Expr} {kk : Nat} {tpos : Pos} (x : Str) (t : Tok) (e it : Addr) :
    Turn P w K (.Tuple elts kk tpos) (ItEs x) [e, it] e (fun i h => (∃ old, IsEnum h e it i old) ∧ h.IsStrIter it (strIterType x) x t i ∧ e ≠ it ∧ i ≤ x.cps.size) where
  mem := by simp
  obj := fun i h st b hb => by
    obtain ⟨⟨old, he⟩, ⟨o, ho, hc, hd⟩, _⟩ := st
    have e' : b = e ∨ b = it := by simpa using hb
    rcases e' with z | z
    · rw [z]; exact ⟨_, he, fun v q => nomatch q⟩
    · rw [z]; exact ⟨o, ho, fun v q => by rw [hd] at q; cases q⟩
  keep := fun i h h' st k => by
    obtain ⟨⟨old, he⟩, ⟨o, ho, r⟩, hne, hi⟩ := st
    exact ⟨⟨old, k e (by simp) _ he⟩, ⟨o, k it (by simp) _ ho, r⟩, hne, hi⟩
  item := by
    intro X hP hw hK hc i pins s σ H E I hf st hg
    subst hP hw hK
    obtain ⟨⟨old, he⟩, hit, hne, hi⟩ := st
    have hlt : i < x.cps.size := hg
    have hel : e < s.heap.objs.size := Heap.lt_size he
    have hil : it < s.heap.objs.size := by obtain ⟨_, q, _⟩ := hit; exact Heap.lt_size q
    have hh : X.A.in1.handled = none := I.ok.hd hc
    refine wpAny_pyNext_enum_itemD (draws_str (A := X.A.in1) hh it x t) he hit hlt hne (by simpa using hne) fun u h' tk hu ho hit' hT hsz hk => ?_
    obtain ⟨c, tu, hc1, rfl⟩ := hu
    refine ⟨_, rfl, wpAny_letOwnedTupleGo_enum (s := { s with heap := h', toks := tk + 1 }) ho fun h'' he' sb => ?_⟩
    have hT2 : h''.get? s.heap.objs.size = some { cls := .type "tuple", data := .seq #[.int i tk, .str ⟨#[c]⟩ tu] } := (sb.2 _ (Nat.ne_of_gt hel)).trans hT
    have new : ObjOk X.prog X.w (upd H s.heap.objs.size (.tup [.int (i : Nat), .str ⟨#[c]⟩])) h'' s.heap.objs.size (.tup [.int (i : Nat), .str ⟨#[c]⟩]) :=
      ⟨by show 2 ≤ sizeLine; decide, [.int i tk, .str ⟨#[c]⟩ tu], .cons ⟨_, rfl⟩ (.cons ⟨_, rfl⟩ .nil), ⟨_, hT2, rfl, _, rfl⟩⟩
    have I1 : Inv X pins σ (upd H s.heap.objs.size (.tup [.int (i : Nat), .str ⟨#[c]⟩])) { s with heap := h'', toks := tk + 1 } :=
      I.turnedNew (ch := [e, it]) (fun b ob hb q => (sb.2 b (fun z => hb (by simp [z]))).trans (hk b ob (fun z => hb (by simp [z])) (fun z => hb (by simp [z])) q)) hf (Nat.le_refl _) new
    refine ⟨.ref s.heap.objs.size, _, I1, rfl, ⟨_, c, rfl, I.hok.fresh (Nat.le_refl _), rfl, hc1⟩, ⟨⟨.str ⟨#[c]⟩ tu, ?_⟩, ?_, hne, hlt⟩, fun b hb => ?_⟩
    · have e1 : ((i + 1 : Nat) : Int) = (i : Int) + 1 := by omega
      rw [e1]; exact he'
    · obtain ⟨o, ho2, r⟩ := hit'
      exact ⟨o, (sb.2 it (Ne.symm hne)).trans ho2, r⟩
    · have hb' : b < s.heap.objs.size := by
        have e' : b = e ∨ b = it := by simpa using hb
        rcases e' with z | z
        · rw [z]; exact hel
        · rw [z]; exact hil
      rw [upd_ne (Nat.ne_of_lt hb')]
      exact (hf b hb).1
  done := by
    intro X hP hw hK hc i pins s σ H E I hf st hg
    subst hP hw hK
    obtain ⟨⟨old, he⟩, hit, hne, hi⟩ := st
    have hle : x.cps.size ≤ i := hg
    have ei : i = x.cps.size := by omega
    subst ei
    obtain ⟨f0, f1, f2, f3, f4, f5⟩ := hf it (by simp)
    have hh : X.A.in1.handled = none := I.ok.hd hc
    exact wpAny_pyNext_enum_endD (draws_str (A := X.A.in1) hh it x t) he hit fun h' eb => ⟨rfl, I.turned (t' := s.toks) (fun b o hb q => eb b o hb q) f0 f1 f3 f4 f5⟩
  self := fun A i s Q E st h => let ⟨⟨_, he⟩, _⟩ := st; wpAny_pyIter_enum he h
def iEnumS (te : TA) : TI := fun σ H R => te σ H fun vs H1 => ∃ x, vs = [.str x] ∧ R (ItEs x) H1
theorem pi_enumS {X : Cx} {e : Expr} {ta : TA} {p pos tpos : Pos} {elts : List Expr} {kk : Nat} (hg : Gl X "enumerate") (hm : X.mg "enumerate" = none) (ha : PA X [e] ta) (hs : starEach [e] X.env = [(false, eval e X.env)] := by rfl) :
    PI X (.Tuple elts kk tpos) (.Call (.Name "enumerate" p) [e] [] pos) (iEnumS ta) := by
  refine ⟨fun pins s σ H R I h => ?_⟩
  refine Call_ (ld_blt I hg hm boot_enumerate (PyProof.Rows.callWith_type1 (thn (ha.run pos pins s σ H _ I h) fun us s1 ⟨vs, H1, I1, r1, q1⟩ => ?_) hs rfl))
  obtain ⟨x, ex, q⟩ := q1
  subst ex
  cases r1 with
  | cons r rr =>
    cases rr
    obtain ⟨t, rfl⟩ := r
    refine call_enumerate_str fun h' he hit hsz hk => wpAny_pyIter_enum he ?_
    have I2 : Inv X pins σ H1 { s1 with heap := h' } := I1.kept (t' := s1.toks) hk
    refine ⟨s1.heap.objs.size + 1, [s1.heap.objs.size + 1, s1.heap.objs.size], _, _, H1, rfl, I2, turn_enumS x t (s1.heap.objs.size + 1) s1.heap.objs.size, ⟨⟨.none, he⟩, hit, Nat.succ_ne_self _, Nat.zero_le _⟩, fun b hb => ?_, q⟩
    have e' : b = s1.heap.objs.size + 1 ∨ b = s1.heap.objs.size := by simpa using hb
    have hle : s1.heap.objs.size ≤ b := by
      rcases e' with z | z
      · rw [z]; exact Nat.le_add_right _ _
      · rw [z]; exact Nat.le_refl _
    exact I1.fpOk hle (I1.hok.fresh hle)
theorem _root_.L2.PI.or2 {X : Cx} {tg e : Expr} {t u : TI} (h : PI X tg e t) (h' : PI X tg e u) : PI X tg e (fun σ H R => t σ H R ∨ u σ H R) := ⟨fun pins s σ H R I q => by
  rcases q with q | q
  · exact h.run pins s σ H R I q
  · exact h'.run pins s σ H R I q⟩
def enumL : Nat → List D → List D
  | _, [] => []
  | i, x :: xs => .tup [.int (i : Nat), x] :: enumL (i + 1) xs
theorem enumL_len : ∀ (i : Nat) (xs : List D), (enumL i xs).length = xs.length
  | _, [] => rfl
  | i, x :: xs => by rw [enumL, List.length_cons, List.length_cons, enumL_len]
theorem enumL_get : ∀ (i k : Nat) (xs : List D) (x : D), (enumL i xs)[k]? = some x → ∃ y, xs[k]? = some y ∧ x = .tup [.int ((i + k : Nat) : Int), y]
  | i, k, [], x, h => by simp [enumL] at h
  | i, 0, y :: xs, x, h => by
    simp [enumL] at h
    exact ⟨y, rfl, h.symm⟩
  | i, k + 1, y :: xs, x, h => by
    obtain ⟨z, h1, h2⟩ := enumL_get (i + 1) k xs x (by simpa [enumL] using h)
    exact ⟨z, by simpa using h1, by rw [h2, show i + 1 + k = i + (k + 1) by omega]⟩
def enumE (fa : SA) : SI := fun env => bindAI (fa env) fun as env1 => match as with
  | [a] => (frz a env1).bind fun p => (match p.1 with | .lst xs => some (enumL 0 xs) | .str x => some (enumL 0 (x.map fun c => .str [c])) | _ => none).map fun ys => .ok ys p.2
  | _ => none
section
variable {K : PySem.W.Frag} {W : WX} {F F' : Hp} {R R' : Fm} {σ : L2.St} {H H' : Hp} {env env' : Sl}
theorem wk_enumS {x : List Nat} : Wk K F (ItEs (mk x)) (enumL 0 (x.map fun c => .str [c])) := by
  have hs : (mk x).cps.size = x.length := mk_len x
  refine ⟨fun i H hi e => ?_, fun H e => ?_, fun {F' R σ env} i H v H' y hx e S yl => ?_⟩
  · rw [enumL_len, List.length_map] at hi
    show i < (mk x).cps.size
    rw [hs]; exact hi
  · show (mk x).cps.size ≤ _
    rw [enumL_len, List.length_map, hs]
    exact Nat.le_refl _
  · obtain ⟨T, c, rfl, hT, rfl, hc⟩ := yl
    obtain ⟨z, h1, rfl⟩ := enumL_get 0 i _ _ hx
    have e4 : x[i]? = some c := by simpa [mk] using hc
    rw [List.getElem?_map, e4] at h1
    cases h1
    refine ⟨upd F' T (.tup [.int (i : Nat), .str ⟨#[c]⟩]), Ex.new (S.freeF hT), S.freshF hT, .tup (SqT.of upd_same) ?_, Ex.new hT⟩
    rw [Nat.zero_add]
    exact .cons (.int _) (.cons (.str [c]) .nil)
theorem wk_enumL {a : Addr} {vs : List V} {xs : List D} (s : SqL K F a vs) (r : RelAll K F vs xs) : Wk K F (Ite K a) (enumL 0 xs) := by
  refine ⟨fun i H hi e => ?_, fun H e => ?_, fun {F' R σ env} i H v H' y hx e S yl => ?_⟩
  · rw [enumL_len] at hi
    obtain ⟨v, hv, _⟩ := r.getD (List.getElem?_eq_getElem hi)
    exact ⟨vs, v, ex_l e s, hv⟩
  · exact ⟨vs, ex_l e s, by rw [enumL_len, r.len]; exact Nat.le_refl _⟩
  · obtain ⟨T, u, rfl, hT, rfl, hc⟩ := yl
    obtain ⟨z, h1, rfl⟩ := enumL_get 0 i _ _ hx
    have hu := hc vs (ex_l (e.trans S.sub) s)
    obtain ⟨d, h2, rv⟩ := r.get hu
    rw [h1] at h2
    cases h2
    have eF : Ex F' (upd F' T (.tup [.int (i : Nat), u])) := Ex.new (S.freeF hT)
    refine ⟨upd F' T (.tup [.int (i : Nat), u]), eF, S.freshF hT, .tup (SqT.of upd_same) ?_, Ex.new hT⟩
    rw [Nat.zero_add]
    exact .cons (.int _) (.cons ((rv.up e).up eF) .nil)
theorem dI_enum {fa : SA} {Q : It → Hp → Prop} (h : dI K W (enumE fa) σ H Q) : iEnum K (dA K W fa) σ H Q ∨ iEnumS (dA K W fa) σ H Q := by
  obtain ⟨env, F, R, r, S, e, p⟩ := h
  rcases bindAI_inv e with ⟨as, env1, h1, h2⟩ | ⟨x, env1, h1, rfl⟩
  · match as, h1, h2 with
    | [a], h1, h2 =>
      dsimp only at h2
      rw [Option.bind_eq_some_iff] at h2
      obtain ⟨⟨x, env2⟩, h3, h4⟩ := h2
      rw [Option.map_eq_some_iff] at h4
      obtain ⟨ys, h5, rfl⟩ := h4
      have key : ∀ {Q1 : List V → Hp → Prop}, (∀ v F2 H1, Ex F F2 → Sta K F2 R σ H1 env2 → Rel K F2 v x → Q1 [v] H1) → dA K W fa σ H Q1 := fun {Q1} k =>
        ⟨env, F, R, _, S, h1, fun vs F1 H1 R1 e1 eR S1 hv => by
          match vs, hv with
          | [v], hv =>
            obtain ⟨F2, e2, S2, r2⟩ := frz_ok (S1.unhold eR) (unheld (Ex.refl _) eR S1 hv.1) h3
            exact k v F2 H1 (e1.trans e2) S2 r2
          | [], hv => exact hv.elim
          | _ :: _ :: _, hv => exact hv.2.2.elim⟩
      cases x with
      | lst xs =>
        cases h5
        exact .inl (key fun v F2 H1 e2 S2 r2 => by
          cases r2 with
          | lst s rr => exact ⟨_, _, rfl, ex_l S2.sub s, p _ F2 H1 e2 S2 (wk_enumL s rr)⟩)
      | str y =>
        cases h5
        exact .inr (key fun v F2 H1 e2 S2 r2 => by
          cases r2
          exact ⟨mk y, rfl, p _ F2 H1 e2 S2 wk_enumS⟩)
      | _ => cases h5
  · exact .inl ⟨env, F, R, _, S, h1, p⟩
end
section
variable {X : Cx} {W : WX} {e : Expr} {fa : SA} {p pos tpos : Pos} {elts : List Expr} {kk : Nat}
theorem pi_denum (hm : X.mg "enumerate" = none) (ha : PA X [e] (dA X.K W fa)) (hg : Gl X "enumerate" := by rfl) (hs : starEach [e] X.env = [(false, eval e X.env)] := by rfl) : PI X (.Tuple elts kk tpos) (.Call (.Name "enumerate" p) [e] [] pos) (dI X.K W (enumE fa)) :=
  ((pi_enum hg hm ha hs).or2 (pi_enumS hg hm ha hs)).wk fun _ _ _ q => dI_enum q
end
end
end Dw
namespace Dw
noncomputable section
open PySem PySem.Spec PyProof.Rows L2
variable [Glo] [Tabs]
theorem cr_list {X : Cx} : CallR X (.type "list") (rListC X.K) := call_list_of
theorem cr_tuple {X : Cx} : CallR X (.type "tuple") (rTupleC X.K) := call_tuple_of
def rgD (g : List D → RV) (fa : SE) : SE := fun env => bindE (fa env) fun a env1 => match pk a env1 with
  | some (.int n) => if okP (-(2 ^ 62) ≤ n ∧ n < 2 ^ 62 ∧ n.toNat ≤ 100000) then some (.ok (g ((List.range n.toNat).map fun i => .int (i : Nat))) env1) else none
  | _ => none
def tupRV (xs : List D) : RV := .d (.tup xs)
theorem rgV_rel {K : PySem.W.Frag} {F : Hp} (n : Int) : RelAll K F (rgV 0 n) ((List.range n.toNat).map fun i => .int (i : Nat)) := by
  unfold rgV
  rw [Int.sub_zero]
  have h := RelAll.ints (K := K) (F := F) ((List.range n.toNat).map fun i : Nat => (i : Int))
  rw [List.map_map, List.map_map] at h
  have e : (fun i : Nat => V.int (0 + (i : Int))) = V.int ∘ fun i : Nat => (i : Int) := by funext i; simp
  rw [e]
  exact h
section
variable {K : PySem.W.Frag} {W : WX} {σ : L2.St} {H : Hp} {Q : VK}
theorem dE_rg {g : List D → RV} {fa : SE} {R0 : Int → Hp → VK → Prop} (h : dE K W (rgD g fa) σ H Q)
    (hk : ∀ {F R env n H1}, Sta K F R σ H1 env → RgOk 0 n → PostE K W F R σ (.ok (g ((List.range n.toNat).map fun i => .int (i : Nat))) env) Q → R0 n H1 Q) : dE K W fa σ H fun x H1 => ∃ n, x = .int n ∧ R0 n H1 Q := by
  refine dE_one (op := fun a env1 => match pk a env1 with | some (.int n) => if okP (-(2 ^ 62) ≤ n ∧ n < 2 ^ 62 ∧ n.toNat ≤ 100000) then some (.ok (g ((List.range n.toNat).map fun i => .int (i : Nat))) env1) else none | _ => none) h fun a env F R v H1 S rv q => ?_
  obtain ⟨r, e, p⟩ := q
  dsimp only at e
  cases hx : pk a env with
  | none => rw [hx] at e; cases e
  | some x =>
    rw [hx] at e
    cases x with
    | int n =>
      cases (show Rel K F v (.int n) from pk_vw S rv hx)
      obtain ⟨c, rfl⟩ := some_if e
      rw [okP_iff] at c
      exact ⟨n, rfl, hk S ⟨by omega, by omega, c.1, c.2.1, by rw [Int.sub_zero]; omega⟩ p⟩
    | _ => cases e
end
section
variable {X : Cx} {W : WX} {a : Expr} {fa : SE} {p p2 pos pos2 : Pos}
theorem pd_tupRg (hc : X.calm = true) (hm : X.mg "tuple" = none) (hm2 : X.mg "range" = none) (ha : PE X a (dE X.K W fa)) (hg : Gl X "tuple" := by rfl) (hg2 : Gl X "range" := by rfl) (na2 : starEach [a] X.env = (false, eval a X.env) :: starEach [] X.env := by rfl)
    (na : starEach [.Call (.Name "range" p2) [a] [] pos2] X.env = (false, eval (.Call (.Name "range" p2) [a] [] pos2) X.env) :: starEach [] X.env := by rfl) :
    PE X (.Call (.Name "tuple" p) [.Call (.Name "range" p2) [a] [] pos2] [] pos) (dE X.K W (rgD tupRV fa)) :=
  (pe_tupRg hc hg hm (prg_1 hg2 hm2 ha na2) na).wk fun σ H Q q => by
    have := dE_rg (R0 := fun n H1 Q => RgOk 0 n ∧ ∀ q, H1 q = none → Q (.ref q) (upd H1 q (.tup (rgV 0 n)))) q fun {F R env n H1} S ok p => ⟨ok, fun q hq => post_tup S p hq (rgV_rel n)⟩
    exact this
end
end
end Dw
namespace Dw
noncomputable section
open PySem PySem.Spec PyProof.Rows L2
variable [Glo] [Tabs]
section
variable {K : PySem.W.Frag} {W : WX} {F F' : Hp} {R R' : Fm} {σ : L2.St} {H H' : Hp} {env : Sl} {Q : VK}
theorem heldAll_set : ∀ {vs : List V} {as : List RV} (j : Nat), HeldAll K F R R' σ vs as → HeldAll K F R R' σ (vs.set j .non) (as.set j (.d .non))
  | [], [], _, _ => trivial
  | v :: vs, a :: as, 0, h => ⟨.non, ⟨fun c e => (by cases e), h.2.2⟩⟩
  | v :: vs, a :: as, j + 1, h => by
    refine ⟨h.1, fun c e w b hm c' hb => ?_, heldAll_set j h.2.2⟩
    have mem : ∀ (vs : List V) (as : List RV) (j : Nat), (w, b) ∈ (vs.set j .non).zip (as.set j (.d .non)) → (w, b) ∈ vs.zip as ∨ b = .d .non := by
      intro vs
      induction vs with
      | nil => intro as j hm; simp at hm
      | cons x xs ih =>
        intro as j hm
        cases as with
        | nil => simp at hm
        | cons y ys =>
          cases j with
          | zero =>
            simp only [List.set_cons_zero, List.zip_cons_cons, List.mem_cons] at hm ⊢
            rcases hm with hm | hm
            · cases hm; exact .inr rfl
            · exact .inl (.inr hm)
          | succ j =>
            simp only [List.set_cons_succ, List.zip_cons_cons, List.mem_cons] at hm ⊢
            rcases hm with hm | hm
            · exact .inl (.inl hm)
            · rcases ih ys j hm with h | h
              · exact .inl (.inr h)
              · exact .inr h
    rcases mem vs as j hm with h1 | h1
    · exact h.2.1 c e w b h1 c' hb
    · rw [h1] at hb; cases hb
  | [], _ :: _, _, h => h.elim
  | _ :: _, [], _, h => h.elim
theorem heldAll_at : ∀ {vs : List V} {as : List RV} {j i : Nat}, HeldAll K F R R' σ vs as → as[j]? = some (.cv i) → ∃ v, vs[j]? = some v ∧ σ[i]? = some (some v)
  | [], [], _, _, _, h => by simp at h
  | v :: vs, a :: as, 0, i, h, e => by
    simp at e
    subst e
    exact ⟨v, rfl, h.1⟩
  | v :: vs, a :: as, j + 1, i, h, e => by
    obtain ⟨w, h1, h2⟩ := heldAll_at (j := j) h.2.2 (by simpa using e)
    exact ⟨w, by simpa using h1, h2⟩
  | [], _ :: _, _, _, h, _ => h.elim
  | _ :: _, [], _, _, h, _ => h.elim
theorem Sta.callM (S : Sta K F R σ H env) {xs : List D} {vs : List V} {i j : Nat} {b : Bool} {c : C} {p : Addr} (hi : env[i]? = some (.own b c)) (hp : σ[i]? = some (some (V.ref p))) (hj : vs[j]? = some (.ref p)) (r : RelAll K F (vs.set j .non) xs) :
    Sta K F (calF R σ H env i p) (vs.map some) H ((xs.map .d).set j (.own true c)) := by
  have hl : xs.length = vs.length := by rw [← r.len, List.length_set]
  have hjl : j < vs.length := (List.getElem?_eq_some_iff.mp hj).1
  have hjx : j < (xs.map SV.d).length := by rw [List.length_map, hl]; exact hjl
  have at' : ∀ {k : Nat} {s : SV}, ((xs.map SV.d).set j (.own true c))[k]? = some s → (k = j ∧ s = .own true c) ∨ (k ≠ j ∧ ∃ x v, s = .d x ∧ (vs.map some)[k]? = some (some v) ∧ Rel K F v x) := fun {k s} h => by
    by_cases hk : k = j
    · subst hk
      rw [List.getElem?_set_self hjx] at h
      cases h
      exact .inl ⟨rfl, rfl⟩
    · rw [List.getElem?_set_ne (Ne.symm hk)] at h
      obtain ⟨x, v, h1, h2, h3⟩ := dGet r h
      rw [List.getElem?_map, List.getElem?_set_ne (Ne.symm hk), ← List.getElem?_map] at h2
      exact .inr ⟨hk, x, v, h1, h2, h3⟩
  have hjs : (vs.map some)[j]? = some (some (V.ref p)) := by rw [List.getElem?_map, hj]; rfl
  obtain ⟨q, o, e1, e2, e3, e4, e5⟩ := S.own i b c hi
  rw [hp] at e1
  cases e1
  refine ⟨S.sub, calF_sub S, calF_dis S, by rw [List.length_map, List.length_set, List.length_map, hl], fun k x e => ?_, fun k b' c' e => ?_, fun k c' e => ?_, fun k l bk ck bl cl q h1 h2 _ _ => ?_, fun k x q => (by
    rcases at' q with ⟨_, h⟩ | ⟨_, y, v, h1, _⟩
    · cases h
    · cases h1), fun P h => let ⟨h1, h2, _⟩ := S.tab P h; ⟨h1, h2, calF_tab S P h⟩⟩
  · rcases at' e with ⟨_, h⟩ | ⟨_, y, v, h1, h2, h3⟩
    · cases h
    · cases h1; exact ⟨v, h2, h3⟩
  · rcases at' e with ⟨rfl, h⟩ | ⟨_, y, v, h1, _⟩
    · cases h
      exact ⟨p, o, hjs, e2, calF_free S hi hp, e4, e5⟩
    · cases h1
  · rcases at' e with ⟨rfl, h⟩ | ⟨_, y, v, h1, _⟩
    · exact hjs
    · cases h1
  · rcases at' h1 with ⟨a1, _⟩ | ⟨_, y, v, a1, _⟩
    · rcases at' h2 with ⟨a2, _⟩ | ⟨_, y, v, a2, _⟩
      · rw [a1, a2]
      · cases a2
    · cases a1
theorem Sta.retM {σc : L2.St} {envc : Sl} {i j : Nat} {b : Bool} {c c' : C} {p : Addr} (S : Sta K F R σ H env) (e : Ex F F') (S' : Sta K F' (calF R σ H env i p) σc H' envc) (hi : env[i]? = some (.own b c)) (hp : σ[i]? = some (some (V.ref p))) (hj : envc[j]? = some (.own true c')) : Sta K F' R σ H' (env.set i (.own b c')) := by
  have hl : i < env.length := (List.getElem?_eq_some_iff.mp hi).1
  have at' : ∀ {k : Nat} {s : SV}, (env.set i (.own b c'))[k]? = some s → (k = i ∧ s = .own b c') ∨ (k ≠ i ∧ env[k]? = some s) := fun {k s} h => by
    by_cases hk : k = i
    · subst hk
      rw [List.getElem?_set_self hl] at h
      cases h
      exact .inl ⟨rfl, rfl⟩
    · rw [List.getElem?_set_ne (Ne.symm hk)] at h
      exact .inr ⟨hk, h⟩
  have tg : σc[j]? = some (some (V.ref p)) := S'.tag j c' hj
  refine ⟨S'.sub, (calF_ex S).trans S'.fr, fun a u q => S'.dis a u (calF_ex S a u q), by rw [List.length_set]; exact S.len, fun k x q => ?_, fun k b1 c1 q => ?_, fun k c1 q => ?_, fun k l bk ck bl cl a h1 h2 h3 h4 => ?_, fun k x q => (S.xnNe e (fun y z => by cases z) k x q).2, fun P h => let ⟨h1, h2, _⟩ := S'.tab P h; ⟨h1, h2, (S.tab P h).2.2⟩⟩
  · rcases at' q with ⟨_, h⟩ | ⟨_, q⟩
    · cases h
    · obtain ⟨v, e1, r⟩ := S.dat k x q
      exact ⟨v, e1, r.up e⟩
  · rcases at' q with ⟨rfl, h⟩ | ⟨hk, q⟩
    · cases h
      obtain ⟨p', o', z1, z2, _, z4, z5⟩ := S'.own j true c' hj
      rw [tg] at z1
      cases z1
      obtain ⟨p2, o2, y1, _, y3, _⟩ := S.own k _ _ hi
      rw [hp] at y1
      cases y1
      exact ⟨p, o', hp, z2, y3, z4, z5⟩
    · obtain ⟨p2, o2, y1, y2, y3, y4, y5⟩ := S.own k b1 c1 q
      have hr := calF_own (p0 := p) S hk q y1
      rw [y4] at hr
      exact ⟨p2, o2, y1, S'.dis p2 o2 hr, y3, S'.fr p2 o2 hr, y5.up e⟩
  · rcases at' q with ⟨rfl, h⟩ | ⟨hk, q⟩
    · cases h
      exact S.tag k c hi
    · exact S.tag k c1 q
  · have get : ∀ {k : Nat} {b1 : Bool} {c1 : C}, (env.set i (.own b c'))[k]? = some (SV.own b1 c1) → ∃ b2 c2, env[k]? = some (SV.own b2 c2) := fun q => by
      rcases at' q with ⟨rfl, _⟩ | ⟨_, q⟩
      · exact ⟨_, _, hi⟩
      · exact ⟨_, _, q⟩
    obtain ⟨_, _, g1⟩ := get h1
    obtain ⟨_, _, g2⟩ := get h2
    exact S.inj k l _ _ _ _ a g1 g2 h3 h4
def outM (i j : Nat) (b : Bool) (env : Sl) : FR → Option Re
  | .ok a outs => match outs[j]? with
    | some (.own true c) => (retV a).map (Re.ok · (env.set i (.own b c)))
    | _ => none
  | .ex e outs => match outs[j]? with
    | some (.own true c) => some (.ex e (env.set i (.own b c)))
    | _ => none
def callM (j : Nat) (m : List SV → Option FR) (dfs : List D) (fa : SA) : SE := fun env => bindA (fa env) fun as env1 => match as[j]? with
  | some (.cv i) => (frzs (as.set j (.d .non)) env1).bind fun p => match p.2[i]? with
    | some (.own b c) => (m (((p.1 ++ dfs).map .d).set j (.own true c))).bind (outM i j b p.2)
    | _ => none
  | _ => none
theorem outs_own {s : Option SV} {α : Type} {k : C → Option α} {r : α} (h : (match s with | some (.own true c) => k c | _ => none) = some r) : ∃ c, s = some (.own true c) ∧ k c = some r := by
  cases s with
  | none => cases h
  | some s =>
    cases s with
    | own b c =>
      cases b with
      | true => exact ⟨c, rfl, h⟩
      | false => cases h
    | un => cases h
    | xn _ => cases h
    | d x => cases h
theorem post_outM {vs : List V} {fr : FR} {r : Re} {i j : Nat} {b : Bool} {c : C} {p : Addr} (S : Sta K F R σ H env) (hi : env[i]? = some (.own b c)) (hp : σ[i]? = some (some (V.ref p))) (e : outM i j b env fr = some r) (q : PostE K W F R σ r Q) : PostF K F (calF R σ H env i p) vs fr Q (WE W σ) := by
  cases fr with
  | ex x outs =>
    obtain ⟨c', h1, h2⟩ := outs_own e
    cases h2
    exact fun cls d F' H' e1 S1 hx => q cls d F' H' e1 (S.retM e1 S1 hi hp h1) hx
  | ok a outs =>
    obtain ⟨c', h1, h2⟩ := outs_own e
    rw [Option.map_eq_some_iff] at h2
    obtain ⟨a', h, rfl⟩ := h2
    have ha : a' = a ∧ ∀ i, a ≠ .cv i := by
      cases a with
      | d x => cases h; exact ⟨rfl, by simp⟩
      | own c => cases h; exact ⟨rfl, by simp⟩
      | cv i => cases h
    obtain ⟨rfl, hcv⟩ := ha
    intro v F' H' e1 S1 rv'
    refine q v F' H' e1 (S.retM e1 S1 hi hp h1) ?_
    cases a' with
    | d x => exact rv'
    | cv i => exact absurd rfl (hcv i)
    | own c1 =>
      obtain ⟨p1, o1, z1, z2, z3, z4, z5, z6⟩ := rv'
      obtain ⟨y1, y2⟩ := calF_none S z3
      have tg := S1.tag j c' h1
      have hne : p1 ≠ p := fun z => z6 j true c' h1 (by rw [z]; exact tg)
      refine ⟨p1, o1, z1, z2, y1, z4, z5, fun k b2 c2 hk hz => ?_⟩
      by_cases hki : k = i
      · subst hki
        rw [hp] at hz
        cases hz
        exact hne rfl
      · rw [List.getElem?_set_ne (Ne.symm hki)] at hk
        exact y2 k b2 c2 hki hk hz
theorem ownC {s : Option SV} {α : Type} {k : Bool → C → Option α} {r : α} (h : (match s with | some (.own b c) => k b c | _ => none) = some r) : ∃ b c, s = some (.own b c) ∧ k b c = some r := by
  cases s with
  | none => cases h
  | some s =>
    cases s with
    | own b c => exact ⟨b, c, rfl, h⟩
    | un => cases h
    | xn _ => cases h
    | d x => cases h
theorem asC {s : Option RV} {α : Type} {k : Nat → Option α} {r : α} (h : (match s with | some (.cv i) => k i | _ => none) = some r) : ∃ i, s = some (.cv i) ∧ k i = some r := by
  cases s with
  | none => cases h
  | some s =>
    cases s with
    | cv i => exact ⟨i, rfl, h⟩
    | d x => cases h
    | own c => cases h
theorem dE_callM {np j : Nat} {m : List SV → Option FR} {dfs : List D} {dvs : List V} {fa : SA} (hd : ∀ F : Hp, RelAll K F dvs dfs) (hn : ∀ as fr, m as = some fr → as.length = np) (h : dE K W (callM j m dfs fa) σ H Q) : tCallSD (spD K np m) dvs (WE W) (dA K W fa) σ H Q := by
  obtain ⟨env, F, R, r, S, e, p⟩ := h
  rcases bindA_inv e with ⟨as, env1, h1, h2⟩ | ⟨x, env1, h1, rfl⟩
  · obtain ⟨i, ha, h2⟩ := asC h2
    rw [Option.bind_eq_some_iff] at h2
    obtain ⟨⟨xs, env2⟩, h3, h4⟩ := h2
    obtain ⟨b, c, hi, h4⟩ := ownC h4
    rw [Option.bind_eq_some_iff] at h4
    obtain ⟨fr, h4, h5⟩ := h4
    refine ⟨env, F, R, _, S, h1, fun vs F1 H1 R1 e1 eR S1 hv => ?_⟩
    obtain ⟨v, hvj, hvs⟩ := heldAll_at hv ha
    obtain ⟨F2, R2, e2, eR2, S2, rr⟩ := frzs_held eR S1 (heldAll_set j hv) h3
    have S3 := S2.unhold eR2
    obtain ⟨p0, o0, y1, _⟩ := S3.own i b c hi
    rw [hvs] at y1
    cases y1
    have hjl : j < vs.length := (List.getElem?_eq_some_iff.mp hvj).1
    have rr2 : RelAll K F2 ((vs ++ dvs).set j .non) (xs ++ dfs) := by
      rw [List.set_append_left _ _ hjl]
      exact rr.app (hd F2)
    have hj2 : (vs ++ dvs)[j]? = some (.ref p0) := by rw [List.getElem?_append_left hjl]; exact hvj
    exact ⟨F2, calF R σ H1 env2 i p0, _, fr, hn _ _ h4, S3.callM hi hvs hj2 rr2, h4, post_outM S3 hi hvs h5 (p.up (e1.trans e2))⟩
  · exact ⟨env, F, R, _, S, h1, p⟩
end
theorem pd_callMN {X : Cx} {W : WX} {k l : Nat} {x : Str} {np : Nat} {m : List SV → Option FR} {dfs : List D} {fa : SA} {p pos : Pos} {e : Expr} {es : List Expr} (j : Nat) (C : Def X.prog X.w X.K X.mg X.base k x np m dfs) (hr : Room l X.A) (hj : k ≤ l) (ha : PA X (e :: es) (dA X.K W fa)) (hg : Gl X x := by rfl)
    (hdb : (x == ("__debug__" : Str)) = false := by decide) (he : starEach (e :: es) X.env = (false, eval e X.env) :: starEach es X.env := by rfl) (hpl : (backTo pos (starEach es X.env)).any (·.1) = false := by rfl) :
    PE X (.Call (.Name x p) (e :: es) [] pos) (dE X.K W (callM j m dfs fa)) := by
  obtain ⟨f, fd, ps, ds, dvs, h1, h2, h3, h4, h5, h6, h7⟩ := C.ex
  exact (pe_callSD h1 (hr.mono hj) hg h2 h3 h4 h5 (fun σ pins H s e s' I c => c.elim) ha hdb he hpl).wk fun _ _ _ q => dE_callM h6 h7 q
end
end Dw
namespace Dw
noncomputable section
open PySem PySem.Spec PyProof.Rows L2
variable [Glo] [Tabs]
def whileN (fc : SE) (f : SS) : Nat → SS
  | 0 => fun _ => none
  | n + 1 => fun env => bindS (fc env) fun c env1 => match tru c env1 with
    | some true => match f env1 with
      | some (.nx e2) => whileN fc f n e2
      | some (.ct e2) => whileN fc f n e2
      | some (.bk e2) => some (.nx e2)
      | o => o
    | some false => some (.nx env1)
    | none => none
/-- with turns enough for what is reckoned here -/
def whileS (fc : SE) (f : SS) : SS := whileN fc f 100000
section
variable {K : PySem.W.Frag} {W : WX} {F F' : Hp} {R R' : Fm} {σ : L2.St} {H H' : Hp} {env env' : Sl} {En : Ends}
theorem dS_while {fc : SE} {f : SS} {n0 : Nat} (h : dS K W (whileN fc f n0) En σ H) : tWhile (dT K W fc) (dS K W f) En σ H := by
  obtain ⟨env, F, R, r, S, e, p⟩ := h
  refine ⟨fun n σ' H' => ∃ env' F', Ex F F' ∧ Sta K F' R σ' H' env' ∧ whileN fc f n env' = some r, ⟨n0, env, F, Ex.refl F, S, e⟩, ?_⟩
  rintro n σ1 H1 ⟨env1, F1, e1, S1, h1⟩
  cases n with
  | zero => cases h1
  | succ n =>
    rcases bindS_inv h1 with ⟨a, env2, h2, h3⟩ | ⟨x, env2, h2, rfl⟩
    · refine ⟨env1, F1, R, _, S1, h2, ?_⟩
      cases ht : tru a env2 with
      | none => rw [ht] at h3; cases h3
      | some b =>
        rw [ht] at h3
        refine ⟨b, ht, fun F2 H2 e2 S2 => ?_⟩
        cases b with
        | false =>
          refine iteF ?_
          cases h3
          exact p σ1 F2 H2 (e1.trans e2) S2
        | true =>
          refine iteT ⟨fun σ3 H3 => ∃ env3 F3, Ex F F3 ∧ Sta K F3 R σ3 H3 env3 ∧ whileN fc f n env3 = some r, fun σ3 H3 q => ⟨n, Nat.lt_succ_self n, q⟩, ?_⟩
          dsimp only at h3
          cases hb : f env2 with
          | none => rw [hb] at h3; cases h3
          | some o =>
            rw [hb] at h3
            have e5 : Ex F F2 := e1.trans e2
            refine ⟨env2, F2, R, o, S2, hb, ?_⟩
            cases o with
            | nx env3 => exact fun σ4 F4 H4 e6 S5 => ⟨env3, F4, e5.trans e6, S5, h3⟩
            | ct env3 => exact fun σ4 F4 H4 e6 S5 => ⟨env3, F4, e5.trans e6, S5, h3⟩
            | bk env3 => cases h3; exact fun σ4 F4 H4 e6 S5 => p σ4 F4 H4 (e5.trans e6) S5
            | rt a env3 => cases h3; exact fun v σ4 F4 H4 e6 S5 rv => p v σ4 F4 H4 (e5.trans e6) S5 rv
            | ex x env3 => cases h3; exact fun cls d σ4 F4 H4 e6 S5 hx => p cls d σ4 F4 H4 (e5.trans e6) S5 hx
    · exact ⟨env1, F1, R, _, S1, h2, fun cls d F' H' e2 S2 hx => p cls d σ1 F' H' (e1.trans e2) S2 hx⟩
end
section
variable {X : Cx} {W : WX} {c : Expr} {body : List Stmt} {fc : SE} {f : SS} {pos : Pos}
theorem ps_dwhile (hp : PassesOwn (model X.prog X.w) X.A X.env X.xe) (hc : PT X c (dT X.K W fc)) (hb : PSs X body (dS X.K W f)) : PS X (.While c body [] pos) (dS X.K W (whileS fc f)) := (ps_while hp hc hb).wk fun _ _ _ q => dS_while q
end
end
end Dw
namespace Dw
noncomputable section
open PySem PySem.Spec PyProof.Rows L2
variable [Glo] [Tabs]
def asgT (tg : Tg) (fe : SE) : SS := fun env => bindS (fe env) fun a env1 => (frz a env1).bind fun p => (putT tg p.1 p.2).map .nx
section
variable {K : PySem.W.Frag} {W : WX} {σ : L2.St} {H : Hp} {En : Ends}
theorem dS_asgT {tg : Tg} {fe : SE} (h : dS K W (asgT tg fe) En σ H) : tAsg (dE K W fe) (gT K tg) En σ H := by
  obtain ⟨env, F, R, r, S, e, p⟩ := h
  rcases bindS_inv e with ⟨a, env1, h1, h2⟩ | ⟨x, env1, h1, rfl⟩
  · rw [Option.bind_eq_some_iff] at h2
    obtain ⟨⟨x, env2⟩, h3, h4⟩ := h2
    rw [Option.map_eq_some_iff] at h4
    obtain ⟨env3, h5, rfl⟩ := h4
    refine ⟨env, F, R, _, S, h1, fun v F1 H1 e1 S1 rv => ?_⟩
    obtain ⟨F2, e2, S2, r2⟩ := frz_ok S1 rv h3
    exact putT_ok S2 r2 h5 fun σ' S3 => p σ' F2 H1 (e1.trans e2) S3
  · exact ⟨env, F, R, _, S, h1, fun cls d F' H' e1 S1 hx => p cls d σ F' H' e1 S1 hx⟩
end
section
variable {X : Cx} {W : WX} {tg e : Expr} {t : Tg} {fe : SE} {pos : Pos}
theorem ps_dasgT (he : PE X e (dE X.K W fe)) (hg : PG X tg (gT X.K t)) (hs : swapsWithSole [tg] e pos.line X.env = pure false := by rfl) (hw : swappedStores [tg] e X.env = pure none := by rfl)
    (h1 : (assignEach [tg] X.env).map (·.2) = [assign tg X.env] := by rfl) : PS X (.Assign [tg] e pos) (dS X.K W (asgT t fe)) := (ps_asg he hg hs hw h1).wk fun _ _ _ q => dS_asgT q
end
end
end Dw
namespace Dw
end Dw
namespace Dw
noncomputable section
open PySem PySem.Spec PyProof.Rows L2
variable [Glo] [Tabs]
open PySem.Sem (wp)
def ItB (t : Bool) (h : Heap) (it l : Addr) (k : Nat) : Prop := if t then h.IsTupleIter it l k else h.IsListIter it l k
def SqB (t : Bool) (h : Heap) (l : Addr) (xs : Array Value) : Prop := if t then h.IsTuple l xs else h.IsList l xs
section
variable {t u : Bool} {h h' : Heap} {it l c : Addr} {k : Nat} {xs : Array Value}
theorem ItB.but (q : ItB t h it l k) (e : Heap.ExtBut c h h') (n : it ≠ c) : ItB t h' it l k := by
  cases t
  · exact Heap.IsListIter.extBut q e n
  · exact Heap.IsTupleIter.extBut q e n
theorem SqB.but (q : SqB t h l xs) (e : Heap.ExtBut c h h') (n : l ≠ c) : SqB t h' l xs := by
  cases t
  · exact Heap.IsList.extBut q e n
  · exact Heap.IsTuple.extBut q e n
theorem ItB.keep (q : ItB t h it l k) (e : ∀ o, h.get? it = some o → h'.get? it = some o) : ItB t h' it l k := by
  cases t
  · exact Heap.IsListIter.at q e
  · exact Heap.IsTupleIter.at q e
theorem SqB.push (q : SqB t h l xs) (o : Obj) : SqB t (h.push o) l xs := by
  cases t
  · exact Heap.IsList.push q o
  · exact Heap.IsTuple.push q o
theorem ItB.obj (q : ItB t h it l k) : ∃ o, h.get? it = some o ∧ ∀ v, o.data ≠ .cell v := by
  cases t
  · obtain ⟨o, ho, _, hd⟩ := (q : h.IsListIter it l k)
    exact ⟨o, ho, fun v z => by rw [hd] at z; cases z⟩
  · obtain ⟨o, ho, _, hd⟩ := (q : h.IsTupleIter it l k)
    exact ⟨o, ho, fun v z => by rw [hd] at z; cases z⟩
theorem ItB.lt (q : ItB t h it l k) : it < h.objs.size := let ⟨_, e, _⟩ := q.obj; Heap.lt_size e
theorem SqB.lt (q : SqB t h l xs) : l < h.objs.size := by
  cases t
  · obtain ⟨o, ho, _⟩ := (q : h.IsList l xs)
    exact Heap.lt_size ho
  · obtain ⟨o, ho, _⟩ := (q : h.IsTuple l xs)
    exact Heap.lt_size ho
def itO (t : Bool) (l : Addr) : Obj := { cls := .type (if t then "tuple_iterator" else "list_iterator"), data := .fields #[.ref l, .int 0 0] }
theorem ItB.new (e : h.get? it = some (itO t l)) : ItB t h it l 0 := by
  cases t
  · exact ⟨_, e, rfl, rfl⟩
  · exact ⟨_, e, rfl, rfl⟩
end
section
variable {prog : Program} {w : World} {A : Around} {E : Value → Shared → Prop} {s : Shared} {t u : Bool}
theorem next_itB {it l : Addr} {i : Nat} {xs : Array Value} {x : Value} {Q : Value → Shared → Prop} (q : ItB t s.heap it l i) (ql : SqB t s.heap l xs) (hx : xs[i]? = some x)
    (k : ∀ h', ItB t h' it l (i + 1) → Heap.SameBut it s.heap h' → Q x { s with heap := h' }) : wpAny (model prog w) A (Builtin.SmallTypes.nextOf (.ref it)) Q E s := by
  cases t
  · exact wpAny_nextOf_list_item q ql hx fun h' a b => k h' a b
  · exact RZ.nextOf_tuple_item q ql hx fun h' a b => k h' a b
theorem stop_itB {it l : Addr} {i : Nat} {xs : Array Value} {Q : Value → Shared → Prop} (hh : A.handled = none) (q : ItB t s.heap it l i) (ql : SqB t s.heap l xs) (hx : xs[i]? = none)
    (k : ∀ h' e, Heap.ExtBut it s.heap h' → (∃ o, h'.get? e = some o ∧ o.cls = .type "StopIteration") → E (.ref e) { s with heap := h' }) : wpAny (model prog w) A (Builtin.SmallTypes.nextOf (.ref it)) Q E s := by
  cases t
  · exact wpAny_nextOf_list_end hh q ql hx fun h' e a b => k h' e a b
  · exact RZ.nextOf_tuple_end hh q ql hx fun h' e a b => k h' e a b
end
end
end Dw
namespace Dw
noncomputable section
open PySem PySem.Spec PyProof.Rows L2
variable [Glo] [Tabs]
/-- what a turn of zip leaves as it was -/
def ZKeep (z TO p q : Addr) (h h' : Heap) : Prop := ∀ c o, c ≠ z → c ≠ TO → c ≠ p → c ≠ q → h.get? c = some o → h'.get? c = some o
section
variable {prog : Program} {w : World} {A : Around} {E : Value → Shared → Prop} {s : Shared} {t u : Bool} {z TI TO p q la lb : Addr} {m n : Nat} {xs ys : Array Value} {v0 v1 : Value}
theorem zipB_item {x y : Value} {Q : Value → Shared → Prop} (D : ZipApart z TI TO p q la lb) (hz : IsZip s.heap z TI TO .none) (hi : IsPair s.heap TI (.ref p) (.ref q)) (ho : IsPair s.heap TO v0 v1)
    (a1 : ItB t s.heap p la m) (a2 : ItB u s.heap q lb n) (b1 : SqB t s.heap la xs) (b2 : SqB u s.heap lb ys) (ex : xs[m]? = some x) (ey : ys[n]? = some y)
    (k : ∀ h', IsZip h' z TI TO (rawInt s.heap.objs.size) → IsPair h' TO x y → ItB t h' p la (m + 1) → ItB u h' q lb (n + 1) → IsPair h' s.heap.objs.size x y → h'.objs.size = s.heap.objs.size + 1 → ZKeep z TO p q s.heap h' → Q (.ref s.heap.objs.size) { s with heap := h' }) :
    wpAny (model prog w) A (Builtin.«zip.__next__» ⟨[.ref z], []⟩) (fun fin s' => ∃ v, fin = .done (.ret v) ∧ Q v s') E s := by
  (show wpAny _ _ (field (.ref z) 2 >>= _) _ _ _); refine wpAny_bind (wpAny_field hz rfl (x := .bool false) rfl ?_)
  (show wpAny _ _ (field (.ref z) 3 >>= _) _ _ _); refine wpAny_bind (wpAny_field hz rfl (x := .ref TI) rfl ?_)
  refine wpAny_bind (wpAny_seqItems hi rfl ?_); (show wpAny _ _ (Builtin.SmallTypes.ownedTupleIsFree (.ref z) >>= _) _ _ _); refine wpAny_bind ?_
  unfold Builtin.SmallTypes.ownedTupleIsFree; refine wpAny_bind (wpAny_field hz rfl (x := .none) rfl (wpAny_pure ?_)); simp only [if_true]
  refine wpAny_bind (wpAny_rule ?_); refine wpAny_bind (wpAny_field hz rfl (x := .ref TO) rfl ?_)
  refine wpAny_bind (wpAny_setField_rec hz (by simp) fun g1 z1 k1 => ?_)
  have z1 : IsZip g1 z TI TO .ellipsis := z1
  refine wpAny_bind ?_; simp only [List.zipIdx_cons, List.zipIdx_nil, List.forIn_cons, List.forIn_nil]
  refine wpAny_bind (wpAny_bind (wpAny_onRaise ?_)); (show wpAny _ _ (Builtin.SmallTypes.nextOf (.ref p) >>= _) _ _ _)
  refine wpAny_bind (next_itB (a1.but k1.extBut D.i1z) (b1.but k1.extBut D.l1z) ex fun g2 n1 k2 => wpAny_pure ?_)
  have o2 : IsPair g2 TO v0 v1 := k2.extBut _ _ D.TOi1 (k1.extBut _ _ D.TOz ho)
  refine wpAny_bind (wpAny_seqItems o2 rfl ?_); refine wpAny_bind (wpAny_updateSeq_pair o2 fun g3 o3 k3 => ?_)
  have o3 : IsPair g3 TO x v1 := o3
  refine wpAny_bind (wpAny_letGo (wpAny_pure ?_)); refine wpAny_bind (wpAny_bind (wpAny_onRaise ?_)); (show wpAny _ _ (Builtin.SmallTypes.nextOf (.ref q) >>= _) _ _ _)
  refine wpAny_bind (next_itB (((a2.but k1.extBut D.i2z).but k2.extBut D.i12.symm).but k3.extBut D.TOi2.symm) (((b2.but k1.extBut D.l2z).but k2.extBut D.l2i1).but k3.extBut D.l2TO) ey fun g4 n2 k4 => wpAny_pure ?_)
  have o4 : IsPair g4 TO x v1 := k4.extBut _ _ D.TOi2 o3
  refine wpAny_bind (wpAny_seqItems o4 rfl ?_); refine wpAny_bind (wpAny_updateSeq_pair o4 fun g5 o5 k5 => ?_)
  have o5 : IsPair g5 TO x y := o5
  refine wpAny_bind (wpAny_letGo (wpAny_pure (wpAny_pure ?_))); refine wpAny_bind (wpAny_seqItems o5 rfl ?_); refine wpAny_bind (wpAny_newTuple ?_)
  have sz : g5.objs.size = s.heap.objs.size := by rw [k5.1, k4.1, k3.1, k2.1, k1.1]
  have z5 : IsZip g5 z TI TO .ellipsis := k5.extBut _ _ D.TOz.symm (k4.extBut _ _ D.i2z.symm (k3.extBut _ _ D.TOz.symm (k2.extBut _ _ D.i1z.symm z1)))
  have kk : ZKeep z TO p q s.heap g5 := fun c o c1 c2 c3 c4 e => k5.extBut _ _ c2 (k4.extBut _ _ c4 (k3.extBut _ _ c2 (k2.extBut _ _ c3 (k1.extBut _ _ c1 e))))
  have p5 : ItB t g5 p la (m + 1) := ((n1.but k3.extBut D.TOi1.symm).but k4.extBut D.i12).but k5.extBut D.TOi1.symm
  have q5 : ItB u g5 q lb (n + 1) := n2.but k5.extBut D.TOi2.symm
  have zl : z < g5.objs.size := Heap.lt_size z5
  (show wpAny _ _ (Builtin.SmallTypes.ownedTupleHandOut (.ref z) (.ref g5.objs.size) >>= _) _ _ _); refine wpAny_bind ?_
  unfold Builtin.SmallTypes.ownedTupleHandOut
  have z6 : IsZip (g5.push { cls := .type "tuple", data := .seq #[x, y] }) z TI TO .ellipsis := Heap.get?_push_of_some _ z5
  refine wpAny_bind (wpAny_setField_rec z6 (by simp) fun g7 z7 k7 => ?_)
  have z7 : IsZip g7 z TI TO (rawInt g5.objs.size) := z7
  refine wpAny_setField_rec z7 (by simp) fun g8 z8 k8 => ?_
  have z8 : IsZip g8 z TI TO (rawInt g5.objs.size) := z8
  have up : ∀ c o, c ≠ z → g5.get? c = some o → g8.get? c = some o := fun c o c1 e => k8.extBut _ _ c1 (k7.extBut _ _ c1 (Heap.get?_push_of_some _ e))
  have t8 : IsPair g8 g5.objs.size x y := k8.extBut _ _ (Nat.ne_of_gt zl) (k7.extBut _ _ (Nat.ne_of_gt zl) (Heap.get?_push_size _ rfl))
  have s8 : g8.objs.size = g5.objs.size + 1 := by rw [k8.1, k7.1, Heap.size_push]
  rw [sz] at z8 t8 s8
  refine wpAny_pure ⟨_, rfl, ?_⟩
  (show Q (.ref g5.objs.size) _); rw [sz]
  exact k g8 z8 (up _ _ D.TOz o5) (p5.keep fun o e => up _ o D.i1z e) (q5.keep fun o e => up _ o D.i2z e) t8 s8 fun c o c1 c2 c3 c4 e => up c o c1 (kk c o c1 c2 c3 c4 e)
theorem zipB_stop {Q : Fin → Shared → Prop} (hh : A.handled = none) (D : ZipApart z TI TO p q la lb) (hz : IsZip s.heap z TI TO .none) (hi : IsPair s.heap TI (.ref p) (.ref q)) (ho : IsPair s.heap TO v0 v1)
    (a1 : ItB t s.heap p la m) (a2 : ItB u s.heap q lb n) (b1 : SqB t s.heap la xs) (b2 : SqB u s.heap lb ys) (en : xs[m]? = none ∨ ys[n]? = none)
    (k : ∀ h' e, ZKeep z TO p q s.heap h' → (∃ o, h'.get? e = some o ∧ o.cls = .type "StopIteration") → E (.ref e) { s with heap := h' }) : wpAny (model prog w) A (Builtin.«zip.__next__» ⟨[.ref z], []⟩) Q E s := by
  (show wpAny _ _ (field (.ref z) 2 >>= _) _ _ _); refine wpAny_bind (wpAny_field hz rfl (x := .bool false) rfl ?_)
  (show wpAny _ _ (field (.ref z) 3 >>= _) _ _ _); refine wpAny_bind (wpAny_field hz rfl (x := .ref TI) rfl ?_)
  refine wpAny_bind (wpAny_seqItems hi rfl ?_); (show wpAny _ _ (Builtin.SmallTypes.ownedTupleIsFree (.ref z) >>= _) _ _ _); refine wpAny_bind ?_
  unfold Builtin.SmallTypes.ownedTupleIsFree; refine wpAny_bind (wpAny_field hz rfl (x := .none) rfl (wpAny_pure ?_)); simp only [if_true]
  refine wpAny_bind (wpAny_rule ?_); refine wpAny_bind (wpAny_field hz rfl (x := .ref TO) rfl ?_)
  refine wpAny_bind (wpAny_setField_rec hz (by simp) fun g1 z1 k1 => ?_)
  have z1 : IsZip g1 z TI TO .ellipsis := z1
  refine wpAny_bind ?_; simp only [List.zipIdx_cons, List.zipIdx_nil, List.forIn_cons, List.forIn_nil]
  refine wpAny_bind (wpAny_bind (wpAny_onRaise ?_)); (show wpAny _ _ (Builtin.SmallTypes.nextOf (.ref p) >>= _) _ _ _)
  cases ex : xs[m]? with
  | none =>
    refine wpAny_bind (stop_itB hh (a1.but k1.extBut D.i1z) (b1.but k1.extBut D.l1z) ex fun g2 e k2 ⟨oe, he, ce⟩ => ?_)
    have z2 : IsZip g2 z TI TO .ellipsis := k2 _ _ D.i1z.symm z1
    have ne : e ≠ z := fun r => by subst r; rw [z2] at he; cases he; simp at ce
    exact wpAny_setField_rec z2 (by simp) fun g3 _ k3 => k g3 e (fun c o c1 _ c3 _ r => k3.extBut _ _ c1 (k2 _ _ c3 (k1.extBut _ _ c1 r))) ⟨oe, k3.extBut _ _ ne he, ce⟩
  | some x =>
    have ey : ys[n]? = none := en.resolve_left (by rw [ex]; simp)
    refine wpAny_bind (next_itB (a1.but k1.extBut D.i1z) (b1.but k1.extBut D.l1z) ex fun g2 n1 k2 => wpAny_pure ?_)
    have o2 : IsPair g2 TO v0 v1 := k2.extBut _ _ D.TOi1 (k1.extBut _ _ D.TOz ho)
    refine wpAny_bind (wpAny_seqItems o2 rfl ?_); refine wpAny_bind (wpAny_updateSeq_pair o2 fun g3 o3 k3 => ?_)
    refine wpAny_bind (wpAny_letGo (wpAny_pure ?_)); refine wpAny_bind (wpAny_bind (wpAny_onRaise ?_)); (show wpAny _ _ (Builtin.SmallTypes.nextOf (.ref q) >>= _) _ _ _)
    refine wpAny_bind (stop_itB hh (((a2.but k1.extBut D.i2z).but k2.extBut D.i12.symm).but k3.extBut D.TOi2.symm) (((b2.but k1.extBut D.l2z).but k2.extBut D.l2i1).but k3.extBut D.l2TO) ey fun g4 e k4 ⟨oe, he, ce⟩ => ?_)
    have z4 : IsZip g4 z TI TO .ellipsis := k4 _ _ D.i2z.symm (k3.extBut _ _ D.TOz.symm (k2.extBut _ _ D.i1z.symm z1))
    have ne : e ≠ z := fun r => by subst r; rw [z4] at he; cases he; simp at ce
    exact wpAny_setField_rec z4 (by simp) fun g5 _ k5 => k g5 e (fun c o c1 c2 c3 c4 r => k5.extBut _ _ c1 (k4 _ _ c4 (k3.extBut _ _ c2 (k2.extBut _ _ c3 (k1.extBut _ _ c1 r))))) ⟨oe, k5.extBut _ _ ne he, ce⟩
theorem pyNext_zipB {x y : Value} {Q : Option Value → Shared → Prop} (D : ZipApart z TI TO p q la lb) (hz : IsZip s.heap z TI TO .none) (hi : IsPair s.heap TI (.ref p) (.ref q)) (ho : IsPair s.heap TO v0 v1)
    (a1 : ItB t s.heap p la m) (a2 : ItB u s.heap q lb n) (b1 : SqB t s.heap la xs) (b2 : SqB u s.heap lb ys) (ex : xs[m]? = some x) (ey : ys[n]? = some y)
    (k : ∀ h', IsZip h' z TI TO (rawInt s.heap.objs.size) → IsPair h' TO x y → ItB t h' p la (m + 1) → ItB u h' q lb (n + 1) → IsPair h' s.heap.objs.size x y → h'.objs.size = s.heap.objs.size + 1 → ZKeep z TO p q s.heap h' → Q (some (.ref s.heap.objs.size)) { s with heap := h' }) :
    wpAny (model prog w) A (pyNext (.ref z)) Q E s := by
  have ty : s.TypeIs (.ref z) "zip" := ⟨_, hz, rfl⟩
  exact wpAny_bind (wpAny_attempt (wpAny_callSpecial?_slot (name := Str.ofString "__next__") ty F.slot_zip_next (wpAny_call_entry F.slot_zip_next ty F.entry_zip_next
    (zipB_item D hz hi ho a1 a2 b1 b2 ex ey fun h' c1 c2 c3 c4 c5 c6 c7 => wpAny_pure (k h' c1 c2 c3 c4 c5 c6 c7)) (F.args_zip_next_1 _))))
theorem pyNext_zipB_stop {Q : Option Value → Shared → Prop} (hh : A.handled = none) (D : ZipApart z TI TO p q la lb) (hz : IsZip s.heap z TI TO .none) (hi : IsPair s.heap TI (.ref p) (.ref q)) (ho : IsPair s.heap TO v0 v1)
    (a1 : ItB t s.heap p la m) (a2 : ItB u s.heap q lb n) (b1 : SqB t s.heap la xs) (b2 : SqB u s.heap lb ys) (en : xs[m]? = none ∨ ys[n]? = none)
    (k : ∀ h', ZKeep z TO p q s.heap h' → Q none { s with heap := h' }) : wpAny (model prog w) A (pyNext (.ref z)) Q E s := by
  have ty : s.TypeIs (.ref z) "zip" := ⟨_, hz, rfl⟩
  refine wpAny_bind (wpAny_attempt (wpAny_callSpecial?_slot (name := Str.ofString "__next__") ty F.slot_zip_next (wpAny_call_entry F.slot_zip_next ty F.entry_zip_next
    (zipB_stop hh D hz hi ho a1 a2 b1 b2 en fun h' e hk ⟨o, oe, ce⟩ => ?_) (F.args_zip_next_1 _))))
  exact wpAny_bind (wpAny_isInstance (T := "StopIteration") (b := true) ⟨o, oe, ce⟩ isSubtype_stop (wpAny_pure (k _ hk)))
end
abbrev zB1 (t : Bool) (h : Heap) (a : Addr) : Heap := h.push (itO t a)
abbrev zB2 (t u : Bool) (h : Heap) (a b : Addr) : Heap := (zB1 t h a).push (itO u b)
abbrev zB3 (t u : Bool) (h : Heap) (a b : Addr) : Heap := (zB2 t u h a b).push { cls := .type "tuple", data := .seq #[.ref h.objs.size, .ref (zB1 t h a).objs.size] }
abbrev zB4 (t u : Bool) (h : Heap) (a b : Addr) : Heap := (zB3 t u h a b).push { cls := .type "tuple", data := .seq #[.none, .none] }
abbrev zB5 (t u : Bool) (h : Heap) (a b : Addr) : Heap := (zB4 t u h a b).push { cls := .type "zip", data := .fields #[.none, .bool false, .bool false, .ref (zB2 t u h a b).objs.size, .ref (zB3 t u h a b).objs.size] }
theorem meets_zipLT (a b : Addr) (xs ys : Array Value) : Meets (Builtin.«zip.__new__» ⟨[.type "zip", .ref a, .ref b], []⟩) (fun _ R s => s.heap.IsList a xs ∧ s.heap.IsTuple b ys ∧ R (.ok (.ret (.ref (zB4 false true s.heap a b).objs.size))) { s with heap := zB5 false true s.heap a b }) :=
  .of_wp fun prog w A R s h => by
    obtain ⟨hp, g, d, tk, os⟩ := s; obtain ⟨e1, e2, h⟩ := h; have hsub := sub_zip
    have f1 : Heap.IsList (Shared.heap ⟨hp, g, d, tk, os⟩) a xs := e1
    have f2 : Heap.IsTuple (Shared.heap ⟨hp.push { cls := .type "list_iterator", data := .fields #[.ref a, .int 0 0] }, g, d, tk, os⟩) b ys := Heap.IsTuple.push e2 _
    wp_walk using wpAny_pyIter_list f1, wpAny_pyIter_tuple f2
    exact ⟨_, rfl, h⟩
theorem meets_zipTL (a b : Addr) (xs ys : Array Value) : Meets (Builtin.«zip.__new__» ⟨[.type "zip", .ref a, .ref b], []⟩) (fun _ R s => s.heap.IsTuple a xs ∧ s.heap.IsList b ys ∧ R (.ok (.ret (.ref (zB4 true false s.heap a b).objs.size))) { s with heap := zB5 true false s.heap a b }) :=
  .of_wp fun prog w A R s h => by
    obtain ⟨hp, g, d, tk, os⟩ := s; obtain ⟨e1, e2, h⟩ := h; have hsub := sub_zip
    have f1 : Heap.IsTuple (Shared.heap ⟨hp, g, d, tk, os⟩) a xs := e1
    have f2 : Heap.IsList (Shared.heap ⟨hp.push { cls := .type "tuple_iterator", data := .fields #[.ref a, .int 0 0] }, g, d, tk, os⟩) b ys := Heap.IsList.push e2 _
    wp_walk using wpAny_pyIter_tuple f1, wpAny_pyIter_list f2
    exact ⟨_, rfl, h⟩
theorem meets_zipB (t u : Bool) (a b : Addr) (xs ys : Array Value) : Meets (Builtin.«zip.__new__» ⟨[.type "zip", .ref a, .ref b], []⟩) (fun _ R s => SqB t s.heap a xs ∧ SqB u s.heap b ys ∧ R (.ok (.ret (.ref (zB4 t u s.heap a b).objs.size))) { s with heap := zB5 t u s.heap a b }) := by
  cases t <;> cases u
  · exact meets_zip_new a b xs ys
  · exact meets_zipLT a b xs ys
  · exact meets_zipTL a b xs ys
  · exact RZ.meets_zipT_new a b xs ys
end
end Dw
namespace Dw
noncomputable section
open PySem PySem.Spec PyProof.Rows L2
variable [Glo] [Tabs]
section
variable {prog : Program} {w : World} {A : Around} {E : Value → Shared → Prop} {s : Shared} {t u : Bool} {a b : Addr} {xs ys : Array Value}
theorem call_zipB {Q : Value → Shared → Prop} (e1 : SqB t s.heap a xs) (e2 : SqB u s.heap b ys)
    (k : ∀ h', IsZip h' (s.heap.objs.size + 4) (s.heap.objs.size + 2) (s.heap.objs.size + 3) .none → IsPair h' (s.heap.objs.size + 2) (.ref s.heap.objs.size) (.ref (s.heap.objs.size + 1)) → IsPair h' (s.heap.objs.size + 3) .none .none →
      ItB t h' s.heap.objs.size a 0 → ItB u h' (s.heap.objs.size + 1) b 0 → (∀ c o, s.heap.get? c = some o → h'.get? c = some o) → Q (.ref (s.heap.objs.size + 4)) { s with heap := h' }) : wpAny (model prog w) A (call (.type "zip") [.ref a, .ref b]) Q E s := by
  refine callType_new F.called_zip (by decide) (F.typeCall_zip_2 _ _) (F.newCall_zip_2 _ _) (fun obj => F.args_object_init_3 obj _ _) F.entry_zip_new (meets_zipB t u a b xs ys) ⟨e1, e2, ?_⟩
  have y1 : (zB1 t s.heap a).objs.size = s.heap.objs.size + 1 := Heap.size_push ..
  have y2 : (zB2 t u s.heap a b).objs.size = s.heap.objs.size + 2 := by rw [Heap.size_push, y1]
  have y3 : (zB3 t u s.heap a b).objs.size = s.heap.objs.size + 3 := by rw [Heap.size_push, y2]
  have y4 : (zB4 t u s.heap a b).objs.size = s.heap.objs.size + 4 := by rw [Heap.size_push, y3]
  have p5 : (zB5 t u s.heap a b).get? (zB4 t u s.heap a b).objs.size = some _ := Heap.get?_push_size _ rfl
  have p4 : (zB5 t u s.heap a b).get? (zB3 t u s.heap a b).objs.size = some _ := Heap.get?_push_of_some _ (Heap.get?_push_size _ rfl)
  have p3 : (zB5 t u s.heap a b).get? (zB2 t u s.heap a b).objs.size = some _ := Heap.get?_push_of_some _ (Heap.get?_push_of_some _ (Heap.get?_push_size _ rfl))
  have p2 : (zB5 t u s.heap a b).get? (zB1 t s.heap a).objs.size = some (itO u b) := Heap.get?_push_of_some _ (Heap.get?_push_of_some _ (Heap.get?_push_of_some _ (Heap.get?_push_size _ rfl)))
  have p1 : (zB5 t u s.heap a b).get? s.heap.objs.size = some (itO t a) := Heap.get?_push_of_some _ (Heap.get?_push_of_some _ (Heap.get?_push_of_some _ (Heap.get?_push_of_some _ (Heap.get?_push_size _ rfl))))
  (show _ ∧ _); rw [y2, y3, y4] at p5; rw [y1, y2] at p3; rw [y3] at p4; rw [y1] at p2; rw [y4]
  exact ⟨⟨_, p5, rfl⟩, k _ p5 p3 p4 (ItB.new p1) (ItB.new p2) fun c o x => Heap.get?_push_of_some _ (Heap.get?_push_of_some _ (Heap.get?_push_of_some _ (Heap.get?_push_of_some _ (Heap.get?_push_of_some _ x))))⟩
end
def SqX (t : Bool) (K : PySem.W.Frag) (H : Hp) (a : Addr) (xs : List V) : Prop := if t then SqT K H a xs else SqL K H a xs
theorem SqX.ex {t : Bool} {K : PySem.W.Frag} {H H' : Hp} {a : Addr} {xs : List V} (e : Ex H H') (q : SqX t K H a xs) : SqX t K H' a xs := by
  cases t
  · exact ex_l e q
  · exact ex_t e q
section
variable {X : Cx} {pins : List (Addr × Obj)} {σ : L2.St} {H : Hp} {s : Shared}
theorem SqX.at {t : Bool} {a : Addr} {xs : List V} (I : Inv X pins σ H s) (q : SqX t X.K H a xs) : ∃ its : List Value, Vals xs its ∧ SqB t s.heap a its.toArray := by
  cases t
  · obtain ⟨its, r, p, _⟩ := I.list q
    exact ⟨its, r, p.isList⟩
  · obtain ⟨its, r, p, _⟩ := I.tuple q
    exact ⟨its, r, p⟩
theorem SqX.inj {t : Bool} {a : Addr} {xs ys : List V} (I : Inv X pins σ H s) (q : SqX t X.K H a xs) (r : SqX t X.K H a ys) : xs = ys := by
  cases t
  · exact I.list_inj q r
  · exact I.tuple_inj q r
end
def ItZ (K : PySem.W.Frag) (t u : Bool) (a b : Addr) : It :=
  ⟨fun i H => ∃ (xs ys : List V) (x y : V), SqX t K H a xs ∧ SqX u K H b ys ∧ xs[i]? = some x ∧ ys[i]? = some y,
   fun i H v H' => ∃ T x y, v = .ref T ∧ H T = none ∧ H' = upd H T (.tup [x, y]) ∧ (∀ xs, SqX t K H a xs → xs[i]? = some x) ∧ ∀ ys, SqX u K H b ys → ys[i]? = some y,
   fun i H => ∃ xs ys : List V, SqX t K H a xs ∧ SqX u K H b ys ∧ (xs.length ≤ i ∨ ys.length ≤ i)⟩
theorem turn_zipB {P : Program} {w : World} {K : PySem.W.Frag} {elts : List Expr} {kk : Nat} {tpos : Pos} {t u : Bool} {a b z TI TO p q : Addr} (D : ZipApart z TI TO p q a b) :
    Turn P w K (.Tuple elts kk tpos) (ItZ K t u a b) [z, TI, TO, p, q] z (fun i h => IsZip h z TI TO .none ∧ IsPair h TI (.ref p) (.ref q) ∧ (∃ x y, IsPair h TO x y) ∧ ItB t h p a i ∧ ItB u h q b i) where
  mem := by simp
  obj := by
    intro i h st c hc
    obtain ⟨hz, h1, ⟨x, y, h2⟩, h3, h4⟩ := st
    simp only [List.mem_cons, List.not_mem_nil, or_false] at hc
    rcases hc with e | e | e | e | e <;> subst e
    · exact ⟨_, hz, fun v r => nomatch r⟩
    · exact ⟨_, h1, fun v r => nomatch r⟩
    · exact ⟨_, h2, fun v r => nomatch r⟩
    · exact h3.obj
    · exact h4.obj
  keep := by
    intro i h h' st k
    obtain ⟨hz, h1, ⟨x, y, h2⟩, h3, h4⟩ := st
    exact ⟨k z (by simp) _ hz, k TI (by simp) _ h1, ⟨x, y, k TO (by simp) _ h2⟩, h3.keep fun o r => k p (by simp) o r, h4.keep fun o r => k q (by simp) o r⟩
  item := by
    intro X hP hw hK hc i pins s σ H E I hf st hg
    subst hP hw hK
    obtain ⟨hz, h1, ⟨x0, y0, h2⟩, h3, h4⟩ := st
    obtain ⟨xs, ys, x, y, qx, qy, hx, hy⟩ := hg
    obtain ⟨is, r1, b1⟩ := qx.at I
    obtain ⟨js, r2, b2⟩ := qy.at I
    obtain ⟨v1, e1, f1⟩ := r1.get hx
    obtain ⟨v2, e2, f2⟩ := r2.get hy
    have zl : z < s.heap.objs.size := Heap.lt_size hz
    refine pyNext_zipB D hz h1 h2 h3 h4 b1 b2 (x := v1) (y := v2) (by simpa using e1) (by simpa using e2) fun h' n1 n2 n3 n4 n5 n6 n7 => ?_
    refine ⟨_, rfl, wpAny_letOwnedTupleGo_zip (s := { s with heap := h' }) n1 fun h'' m1 sb => ?_⟩
    have t2 : h''.get? s.heap.objs.size = some { cls := .type "tuple", data := .seq #[v1, v2] } := (sb.2 _ (Nat.ne_of_gt zl)).trans n5
    have nw : ObjOk X.prog X.w (upd H s.heap.objs.size (.tup [x, y])) h'' s.heap.objs.size (.tup [x, y]) := ⟨by show 2 ≤ sizeLine; decide, [v1, v2], .cons f1 (.cons f2 .nil), ⟨_, t2, rfl, _, rfl⟩⟩
    have I1 : Inv X pins σ (upd H s.heap.objs.size (.tup [x, y])) { s with heap := h'' } := I.turnedNew (t' := s.toks) (ch := [z, TI, TO, p, q])
      (fun c o hb r => (sb.2 c (fun w => hb (by simp [w]))).trans (n7 c o (fun w => hb (by simp [w])) (fun w => hb (by simp [w])) (fun w => hb (by simp [w])) (fun w => hb (by simp [w])) r)) hf (Nat.le_refl _) nw
    refine ⟨.ref s.heap.objs.size, _, I1, rfl, ⟨_, x, y, rfl, I.hok.fresh (Nat.le_refl _), rfl, fun l hl => by rw [hl.inj I qx]; exact hx, fun l hl => by rw [hl.inj I qy]; exact hy⟩,
      ⟨m1, (sb.2 _ D.TIz).trans (n7 _ _ D.TIz D.TITO D.TIi1 D.TIi2 h1), ⟨v1, v2, (sb.2 _ D.TOz).trans n2⟩, n3.keep fun o r => (sb.2 _ D.i1z).trans r, n4.keep fun o r => (sb.2 _ D.i2z).trans r⟩, fun c hcm => ?_⟩
    have hlt : c < s.heap.objs.size := by
      have hcm2 := hcm
      simp only [List.mem_cons, List.not_mem_nil, or_false] at hcm2
      rcases hcm2 with e | e | e | e | e <;> rw [e]
      · exact zl
      · exact Heap.lt_size h1
      · exact Heap.lt_size h2
      · exact h3.lt
      · exact h4.lt
    rw [upd_ne (Nat.ne_of_lt hlt)]
    exact (hf c hcm).1
  done := by
    intro X hP hw hK hc i pins s σ H E I hf st hg
    subst hP hw hK
    obtain ⟨hz, h1, ⟨x0, y0, h2⟩, h3, h4⟩ := st
    obtain ⟨xs, ys, qx, qy, en⟩ := hg
    obtain ⟨is, r1, b1⟩ := qx.at I
    obtain ⟨js, r2, b2⟩ := qy.at I
    have l1 := r1.length
    have l2 := r2.length
    have he : is.toArray[i]? = none ∨ js.toArray[i]? = none := en.imp (fun r => by simp; omega) (fun r => by simp; omega)
    exact pyNext_zipB_stop (I.ok.hd hc) D hz h1 h2 h3 h4 b1 b2 he fun h' hk => ⟨rfl, I.turnedL (t' := s.toks) (ch := [z, TI, TO, p, q])
      (fun c o hb r => hk c o (fun w => hb (by simp [w])) (fun w => hb (by simp [w])) (fun w => hb (by simp [w])) (fun w => hb (by simp [w])) r) hf⟩
  self := fun A i s Q E st h => wpAny_pyIter_zip st.1 h
def iZipB (K : PySem.W.Frag) (ta : TA) : TI := fun σ H R => ta σ H fun vs H1 => ∃ t u a b xs ys, vs = [.ref a, .ref b] ∧ SqX t K H1 a xs ∧ SqX u K H1 b ys ∧ R (ItZ K t u a b) H1
theorem pi_zipB {X : Cx} {e e2 : Expr} {ta : TA} {p pos tpos : Pos} {elts : List Expr} {kk : Nat} (hg : Gl X "zip") (hm : X.mg "zip" = none) (ha : PA X [e, e2] ta)
    (hs : starEach [e, e2] X.env = (false, eval e X.env) :: starEach [e2] X.env := by rfl) (hpl : (backTo pos (starEach [e2] X.env)).any (·.1) = false := by rfl) : PI X (.Tuple elts kk tpos) (.Call (.Name "zip" p) [e, e2] [] pos) (iZipB X.K ta) := by
  refine ⟨fun pins s σ H R I h => ?_⟩
  refine Call_ (ld_blt I hg hm PyProof.Rows.boot_zip (PyProof.Rows.callWith_type1 (thn (ha.run pos pins s σ H _ I h) fun us s1 ⟨vs, H1, I1, r1, q1⟩ => ?_) hs hpl))
  obtain ⟨t, u, a, b, xs, ys, ex, qx, qy, q⟩ := q1
  subst ex
  cases r1 with
  | cons rx rr =>
  cases rr with
  | cons ry rr =>
  cases rr
  cases rx
  cases ry
  obtain ⟨is, f1, b1⟩ := qx.at I1
  obtain ⟨js, f2, b2⟩ := qy.at I1
  refine call_zipB b1 b2 fun h' n1 n2 n3 n4 n5 hk => wpAny_pyIter_zip n1 ?_
  have I2 : Inv X pins σ H1 { s1 with heap := h' } := I1.kept (t' := s1.toks) hk
  refine ⟨s1.heap.objs.size + 4, [s1.heap.objs.size + 4, s1.heap.objs.size + 2, s1.heap.objs.size + 3, s1.heap.objs.size, s1.heap.objs.size + 1], _, _, H1, rfl, I2, turn_zipB (PySem.W.ktu_apart s1.heap.objs.size a b b1.lt b2.lt), ⟨n1, n2, ⟨_, _, n3⟩, n4, n5⟩, fun c hcm => ?_, q⟩
  have hc5 : c = s1.heap.objs.size + 4 ∨ c = s1.heap.objs.size + 2 ∨ c = s1.heap.objs.size + 3 ∨ c = s1.heap.objs.size ∨ c = s1.heap.objs.size + 1 := by simpa only [List.mem_cons, List.not_mem_nil, or_false] using hcm
  have hle : s1.heap.objs.size ≤ c := by
    rcases hc5 with e | e | e | e | e <;> rw [e]
    · exact Nat.le_add_right _ _
    · exact Nat.le_add_right _ _
    · exact Nat.le_add_right _ _
    · exact Nat.le_refl _
    · exact Nat.le_add_right _ _
  exact I1.fpOk hle (I1.hok.fresh hle)
end
end Dw
namespace Dw
noncomputable section
open PySem PySem.Spec PyProof.Rows L2
variable [Glo] [Tabs]
def zipL : List D → List D → List D
  | x :: xs, y :: ys => .tup [x, y] :: zipL xs ys
  | _, _ => []
theorem zipL_len : ∀ (xs ys : List D), (zipL xs ys).length = min xs.length ys.length
  | [], _ => by simp [zipL]
  | _ :: _, [] => by simp [zipL]
  | x :: xs, y :: ys => by rw [zipL, List.length_cons, List.length_cons, List.length_cons, zipL_len]; omega
theorem zipL_get : ∀ (k : Nat) (xs ys : List D) (z : D), (zipL xs ys)[k]? = some z → ∃ x y, xs[k]? = some x ∧ ys[k]? = some y ∧ z = .tup [x, y]
  | k, [], _, z, h => by simp [zipL] at h
  | k, _ :: _, [], z, h => by simp [zipL] at h
  | 0, x :: xs, y :: ys, z, h => by
    simp [zipL] at h
    exact ⟨x, y, rfl, rfl, h.symm⟩
  | k + 1, x :: xs, y :: ys, z, h => by
    obtain ⟨a, b, h1, h2, h3⟩ := zipL_get k xs ys z (by simpa [zipL] using h)
    exact ⟨a, b, by simpa using h1, by simpa using h2, h3⟩
def seqZ : D → Option (Bool × List D)
  | .lst xs => some (false, xs)
  | .tup xs => some (true, xs)
  | _ => none
def zipE (fa : SA) : SI := fun env => bindAI (fa env) fun as env1 => (frzs as env1).bind fun p => match p.1 with
  | [x, y] => (seqZ x).bind fun a => (seqZ y).map fun b => .ok (zipL a.2 b.2) p.2
  | _ => none
section
variable {K : PySem.W.Frag} {W : WX} {F F' : Hp} {R R' : Fm} {σ : L2.St} {H H' : Hp} {env env' : Sl}
theorem seqZ_at {x : D} {t : Bool} {xs : List D} {v : V} (e : seqZ x = some (t, xs)) (r : Rel K F v x) : ∃ a vs, v = .ref a ∧ SqX t K F a vs ∧ RelAll K F vs xs := by
  cases r with
  | lst s r => cases e; exact ⟨_, _, rfl, s, r⟩
  | tup s r => cases e; exact ⟨_, _, rfl, s, r⟩
  | _ => cases e
theorem wk_zip {t u : Bool} {a b : Addr} {vs ws : List V} {xs ys : List D} (s : SqX t K F a vs) (r : RelAll K F vs xs) (s2 : SqX u K F b ws) (r2 : RelAll K F ws ys) : Wk K F (ItZ K t u a b) (zipL xs ys) := by
  refine ⟨fun i H hi e => ?_, fun H e => ⟨vs, ws, s.ex e, s2.ex e, by rw [r.len, r2.len, zipL_len]; omega⟩, fun {F' R σ env} i H v H' y hx e S yl => ?_⟩
  · rw [zipL_len] at hi
    obtain ⟨v, hv, _⟩ := r.getD (List.getElem?_eq_getElem (show i < xs.length by omega))
    obtain ⟨w, hw, _⟩ := r2.getD (List.getElem?_eq_getElem (show i < ys.length by omega))
    exact ⟨vs, ws, v, w, s.ex e, s2.ex e, hv, hw⟩
  · obtain ⟨T, v1, v2, rfl, hT, rfl, g1, g2⟩ := yl
    obtain ⟨x, y, h1, h2, rfl⟩ := zipL_get i _ _ _ hx
    obtain ⟨d1, q1, f1⟩ := r.get (g1 vs (s.ex (e.trans S.sub)))
    obtain ⟨d2, q2, f2⟩ := r2.get (g2 ws (s2.ex (e.trans S.sub)))
    rw [h1] at q1
    rw [h2] at q2
    cases q1
    cases q2
    have eF : Ex F' (upd F' T (.tup [v1, v2])) := Ex.new (S.freeF hT)
    exact ⟨_, eF, S.freshF hT, .tup (SqT.of upd_same) (.cons ((f1.up e).up eF) (.cons ((f2.up e).up eF) .nil)), Ex.new hT⟩
theorem dI_zip {fa : SA} {Q : It → Hp → Prop} (h : dI K W (zipE fa) σ H Q) : iZipB K (dA K W fa) σ H Q := by
  obtain ⟨env, F, R, r, S, e, p⟩ := h
  rcases bindAI_inv e with ⟨as, env1, h1, h2⟩ | ⟨x, env1, h1, rfl⟩
  · rw [Option.bind_eq_some_iff] at h2
    obtain ⟨⟨zs, env2⟩, h3, h4⟩ := h2
    match zs, h3, h4 with
    | [x, y], h3, h4 =>
      have h4 : ((seqZ x).bind fun a => (seqZ y).map fun b => ReI.ok (zipL a.2 b.2) env2) = some r := h4
      rw [Option.bind_eq_some_iff] at h4
      obtain ⟨⟨t, xs⟩, h5, h6⟩ := h4
      rw [Option.map_eq_some_iff] at h6
      obtain ⟨⟨u, ys⟩, h7, rfl⟩ := h6
      refine ⟨env, F, R, _, S, h1, fun vs F1 H1 R1 e1 eR S1 hv => ?_⟩
      obtain ⟨F2, R2, e2, eR2, S2, rr⟩ := frzs_held eR S1 hv h3
      match vs, rr with
      | _, .cons ra (.cons rb .nil) =>
        obtain ⟨a, us, rfl, sa, la⟩ := seqZ_at h5 ra
        obtain ⟨b, ws, rfl, sb, lb⟩ := seqZ_at h7 rb
        exact ⟨t, u, a, b, us, ws, rfl, sa.ex S2.sub, sb.ex S2.sub, p _ F2 H1 (e1.trans e2) (S2.unhold eR2) (wk_zip sa la sb lb)⟩
    | [], h3, h4 => cases h4
    | [_], h3, h4 => cases h4
    | _ :: _ :: _ :: _, h3, h4 => cases h4
  · exact ⟨env, F, R, _, S, h1, p⟩
end
section
variable {X : Cx} {W : WX} {e e2 : Expr} {fa : SA} {p pos tpos : Pos} {elts : List Expr} {kk : Nat}
theorem pi_dzip (hm : X.mg "zip" = none) (ha : PA X [e, e2] (dA X.K W fa)) (hg : Gl X "zip" := by rfl) (hs : starEach [e, e2] X.env = (false, eval e X.env) :: starEach [e2] X.env := by rfl) (hpl : (backTo pos (starEach [e2] X.env)).any (·.1) = false := by rfl) :
    PI X (.Tuple elts kk tpos) (.Call (.Name "zip" p) [e, e2] [] pos) (dI X.K W (zipE fa)) := (pi_zipB hg hm ha hs hpl).wk fun _ _ _ q => dI_zip q
end
theorem ev_zip {env env1 env2 : Sl} {fa : SA} {as : List RV} {x y : D} {t u : Bool} {xs ys : List D} (h : fa env = some (.ok as env1)) (h2 : frzs as env1 = some ([x, y], env2)) (h3 : seqZ x = some (t, xs)) (h4 : seqZ y = some (u, ys)) : zipE fa env = some (.ok (zipL xs ys) env2) := by
  unfold zipE bindAI
  rw [h]
  dsimp only
  rw [h2, Option.bind_some]
  dsimp only
  rw [h3, Option.bind_some, h4]
  rfl
end
end Dw
namespace Dw
noncomputable section
open PySem PySem.Spec PyProof.Rows L2
variable [Glo] [Tabs]
theorem comp_run {vs : List Nat} {tg : Tg} {fe : SE} {env0 : Sl} (f : D → D) : ∀ (xs acc : List D), (∀ x ∈ xs, ∃ env1 a env2 env3, putT tg x env0 = some env1 ∧ fe env1 = some (.ok a env2) ∧ frz a env2 = some (f x, env3) ∧ clr vs env3 = env0) → acc.length + xs.length ≤ 100000 →
    compD vs tg none fe xs acc env0 = some (acc ++ xs.map f, env0)
  | [], acc, _, _ => by simp [compD]
  | x :: xs, acc, h, hl => by
    rw [List.length_cons] at hl
    obtain ⟨env1, a, env2, env3, h1, h2, h3, h4⟩ := h x (List.mem_cons_self ..)
    have ih := comp_run f xs (acc ++ [f x]) (fun y hy => h y (List.mem_cons_of_mem _ hy)) (by simp; omega)
    have hc : acc.length < 100000 := by omega
    unfold compD
    rw [h1, Option.bind_some]
    show (eltD fe env1).bind _ = _
    unfold eltD
    rw [h2]
    dsimp only
    rw [h3, Option.bind_some, if_pos hc]
    dsimp only
    rw [h4, ih, List.append_assoc]
    rfl
theorem ev_comp {vs : List Nat} {fi : SI} {tg : Tg} {ft : Option SE} {fe : SE} {env env1 env2 env3 : Sl} {xs ys : List D} (h : fi env = some (.ok xs env1)) (h2 : compD vs tg ft fe xs [] (clr vs env1) = some (ys, env2)) (h3 : rst vs env1 env2 = env3) : compE vs fi tg ft fe env = some (.ok (.own (.lst ys)) env3) := by
  subst h3
  unfold compE
  rw [h]
  dsimp only
  rw [h2]
  rfl
theorem inB_str (z : List Nat) : ∀ ls : List (List Nat), inB (.str z) (ls.map D.str) = decide (z ∈ ls)
  | [] => rfl
  | a :: ls => by
    have ih := inB_str z ls
    unfold inB at ih ⊢
    rw [List.map_cons, List.any_cons, ih]
    by_cases h : a = z
    · subst h; simp [eqB]
    · have h' : ¬ z = a := fun e => h e.symm
      simp [eqB, h, h']
theorem flat_str (ls : List (List Nat)) : (ls.map D.str).all flatD = true := by
  rw [List.all_eq_true]
  intro x hx
  obtain ⟨z, _, rfl⟩ := List.mem_map.mp hx
  rfl
theorem in_lstS {z : List Nat} {ls : List (List Nat)} : inD (.str z) (.lst (ls.map D.str)) = some (.d (.bl (decide (z ∈ ls)))) := by
  show (if (flatD (.str z) && (ls.map D.str).all flatD) || _ then some (RV.d (.bl (inB (.str z) (ls.map D.str)))) else none) = _
  rw [flat_str, inB_str]
  rfl
theorem in_tupS {z : List Nat} {ls : List (List Nat)} : inD (.str z) (.tup (ls.map D.str)) = some (.d (.bl (decide (z ∈ ls)))) := by
  show (if flatD (.str z) && (ls.map D.str).all flatD then some (RV.d (.bl (inB (.str z) (ls.map D.str)))) else none) = _
  rw [flat_str, inB_str]
  rfl
end
end Dw
namespace Dw
noncomputable section
open PySem PySem.Spec PyProof.Rows L2
variable [Glo] [Tabs]
def setL (j : Nat) (fi fe : SE) : SS := fun env => bindS (fe env) fun a env1 => (frz a env1).bind fun p => (ownL p.2[j]?).bind fun _ => bindS (fi p.2) fun b env2 => match pk b env2 with
  | some (.int k) => (ownL env2[j]?).bind fun o => (ixN o.2.length k).map fun m => .nx (env2.set j (.own o.1 (.lst (o.2.set m p.1))))
  | _ => none
section
variable {K : PySem.W.Frag} {W : WX} {F F' : Hp} {R R' : Fm} {σ : L2.St} {H H' : Hp} {env env' : Sl} {En : Ends} {Q : VK}
def extE (fo fe : SE) : SE := fun env => bindE (fo env) fun a env1 => match a with
  | .cv i => (ownL env1[i]?).bind fun _ => bindE (fe env1) fun b env2 => match b with
    | .own (.lst zs) => (ownL env2[i]?).bind fun o => if o.2.length + zs.length ≤ 100000 then some (.ok (.d .non) (env2.set i (.own o.1 (.lst (o.2 ++ zs))))) else none
    | _ => none
  | _ => none
theorem dE_ext {fo fe : SE} (h : dE K W (extE fo fe) σ H Q) : tBM K "list" rExtend (dE K W fo) (tCons (dE K W fe) tNil) σ H Q := by
  obtain ⟨env, F, R, S, q⟩ := of_dE h
  refine dE_of S (atE_bind q fun a env1 F1 v H1 e1 S1 rv q1 => ?_)
  obtain ⟨r', e, p⟩ := q1
  cases a with
  | d x => cases e
  | own c => cases e
  | cv i =>
    have rv : σ[i]? = some (some v) := rv
    have e : ((ownL env1[i]?).bind fun _ => bindE (fe env1) fun b env2 => match b with
      | .own (.lst zs) => (ownL env2[i]?).bind fun o => if o.2.length + zs.length ≤ 100000 then some (Re.ok (.d .non) (env2.set i (.own o.1 (.lst (o.2 ++ zs))))) else none
      | _ => none) = some r' := e
    rw [Option.bind_eq_some_iff] at e
    obtain ⟨⟨b0, y0⟩, h1, e⟩ := e
    obtain ⟨p0, o0, z1, _, _, z4, ws0, rfl, _⟩ := S1.own i _ _ (ownL_some h1)
    rw [rv] at z1
    cases z1
    refine ⟨.inl ⟨rfl, ws0, .inl (Rd.of z4)⟩, ?_⟩
    cases h2 : fe env1 with
    | none => rw [h2] at e; cases e
    | some q2 =>
      rw [h2] at e
      cases q2 with
      | ex x env2 =>
        cases e
        exact ⟨env1, F1, R, _, S1, h2, p⟩
      | ok b env2 =>
        rw [bindE_ok] at e
        refine ⟨env1, F1, R, _, S1, h2, fun w F2 H2 e2 S2 rw' => ?_⟩
        cases b with
        | d x => cases e
        | cv k => cases e
        | own c =>
          cases c with
          | lst zs =>
            have e : ((ownL env2[i]?).bind fun o => if o.2.length + zs.length ≤ 100000 then some (Re.ok (.d .non) (env2.set i (.own o.1 (.lst (o.2 ++ zs))))) else none) = some r' := e
            rw [Option.bind_eq_some_iff] at e
            obtain ⟨⟨b1, ys⟩, h3, e⟩ := e
            obtain ⟨hc, rfl⟩ := some_if e
            have h3 := ownL_some h3
            obtain ⟨p1, o1, z1, z2, z3, z4, ws, rfl, z5⟩ := S2.own i _ _ h3
            rw [rv] at z1
            cases z1
            obtain ⟨p2, o2, rfl, y2, y3, y4, ⟨us, rfl, y5⟩, y6⟩ := rw'
            refine ⟨p0, p2, ws, us, rfl, rfl, z4, y4, ?_, ?_⟩
            · rw [z5.len, y5.len]; exact Nat.le_trans hc (by decide)
            · exact p .non F2 _ e2 (S2.mut h3 rv ⟨_, rfl, z5.app y5⟩) .non
          | dct _ _ => cases e
          | dcu _ _ => cases e
          | ins _ _ _ => cases e
def popE (fo : SE) : SE := fun env => bindE (fo env) fun a env1 => match a with
  | .cv i => (ownL env1[i]?).bind fun o => (o.2[o.2.length - 1]?).map fun x => .ok (.d x) (env1.set i (.own o.1 (.lst o.2.dropLast)))
  | _ => none
theorem RelAll.dropLast {K : PySem.W.Frag} {F : Hp} {vs : List V} {ds : List D} (h : RelAll K F vs ds) : RelAll K F vs.dropLast ds.dropLast := by
  rw [List.dropLast_eq_take, List.dropLast_eq_take, h.len]
  exact h.take _
def revE (fe : SE) : SE := fun env => bindE (fe env) fun a env1 => match pk a env1 with
  | some (.lst xs) => some (.ok (.own (.lst xs.reverse)) env1)
  | _ => none
end
section
variable {X : Cx} {W : WX} {o e i : Expr} {es : List Expr} {fo fe fi : SE} {fa : SA} {apos pos : Pos} {j : Nat} {x : Str} {px : Pos}
theorem pd_ext (ho : PE X o (dE X.K W fo)) (he : PE X e (dE X.K W fe)) (hbase : attributeBase o "extend" X.env (eval o X.env) = eval o X.env := by rfl)
    (hfew : ((backTo pos (starEach [e] X.env)).all (fun x => !x.1) && (backToKw pos (keywordEach [] X.env)).all (fun x => x.1.isSome)
      && decide ([e].length + ([] : List Keyword).length + (if ([] : List Keyword).isEmpty then 0 else 1) < 30)) = true := by rfl)
    (hline : (apos.endLine == pos.line) = true := by rfl) (hs' : starEach [e] X.env = (false, eval e X.env) :: starEach [] X.env := by rfl) (hplain : (backTo pos (starEach [] X.env)).any (·.1) = false := by rfl) :
    PE X (.Call (.Attribute o "extend" apos) [e] [] pos) (dE X.K W (extE fo fe)) := (pe_bm F.plainAttrs_list F.slot_list_extend F.type_list_extend mt_extend ho (pa_cons he pa_nil hs') hbase hfew hline hs' hplain).wk fun _ _ _ q => dE_ext q
end
section
variable {P : Program} {w : World} {K : PySem.W.Frag} {mg : Str → Option Value} {base : Heap} {k : Nat} {f : Addr} {fd : FuncData} {ps : List Str} {np : Nat}
theorem spD_no {vs : List V} {H : Hp} {Q : VK} {E : XK} (h : spD K np (fun _ => none) vs H Q E) : False := by
  obtain ⟨_, _, _, _, _, _, e, _⟩ := h
  cases e
theorem fn0 : FnOk P w K mg base CX0 k f fd ps (spD K np fun _ => none) where
  len := fun vs H Q E h => (spD_no h).elim
  run := fun A outer s H args us vs Q E _ _ _ _ h => (spD_no h).elim
theorem Def.self {x : Str} {n k0 : Nat} {r : Nat → List SV → Option FR} {B : (List SV → Option FR) → SS} (h0 : r 0 = fun _ => none) (hs : ∀ i, r (i + 1) = defM np n (B (r i)))
    (step : ∀ (k : Nat) (m : List SV → Option FR), k0 ≤ k → Def P w K mg base k x np m [] → FnOk P w K mg base CX0 (k + 1) f fd ps (spD K np (defM np n (B m)))) (hm : mg x = some (.ref f)) (hk : PySem.W.keepIn K (.ref f) = true) (hb : Binds K fd ps []) :
    ∀ i, Def P w K mg base (k0 + i) x np (r i) []
  | 0 => by
    rw [h0]
    exact ⟨f, fd, ps, [], [], fn0, hm, hk, hb, .nil, fun _ => .nil, fun _ _ e => by cases e⟩
  | i + 1 => by
    have C := Def.self h0 hs step hm hk hb i
    have F := step (k0 + i) (r i) (Nat.le_add_right _ _) C
    rw [hs]
    exact Def.mk0 F hm hk hb
end
end
end Dw
namespace Dw
noncomputable section
open PySem PySem.Spec PyProof.Rows L2
variable [Glo] [Tabs]
theorem notin_S {z : List Nat} {ls : List (List Nat)} : notInD (.str z) (.lst (ls.map D.str)) = some (.d (.bl (!decide (z ∈ ls)))) := by
  unfold notInD
  rw [in_lstS]
theorem modN {c : Int} {n : Nat} (h : 0 < n) : ∃ k : Nat, c % (n : Int) = k ∧ k < n := ⟨(c % (n : Int)).toNat, by
  have := Int.emod_nonneg c (b := (n : Int)) (by omega)
  omega, by
  have := Int.emod_nonneg c (b := (n : Int)) (by omega)
  have := Int.emod_lt_of_pos c (b := (n : Int)) (by omega)
  omega⟩
end
end Dw
namespace Dw
noncomputable section
open PySem PySem.Spec PyProof.Rows L2
variable [Glo] [Tabs]
section
variable {X : Cx} {W : WX} {P c : Addr} {scope : Scope} {x : Str} {elt iter : Expr} {pb : Nat → Bool} {te : TE} {k : Nat} {px p pos gpos : Pos}
def allE (fe : SE) (pb : Nat → Bool) : SE := fun env => bindE (fe env) fun a env1 => match pk a env1 with
  | some (.str s) => some (.ok (.d (.bl (s.all pb))) env1)
  | _ => none
end
end
end Dw
namespace Dw
noncomputable section
open PySem PySem.Spec PyProof.Rows L2
def tabFree (K : PySem.W.Frag) (y : Str) : Bool := match PySem.W.tabIn K y with
  | some (_, P) => (K.lookup P).isNone
  | none => false
theorem tabFree_of {K : PySem.W.Frag} {y : Str} (h : tabFree K y = true) : ∃ c P, PySem.W.tabIn K y = some (c, P) ∧ K.lookup P = none := by
  unfold tabFree at h
  split at h
  · rename_i c P e
    exact ⟨c, P, e, Option.isNone_iff_eq_none.mp h⟩
  · cases h
end
end Dw
namespace Dw
noncomputable section
open PySem PySem.Spec PyProof.Rows L2
variable [Glo] [Tabs]
def betE (i : Int) (fe : SE) (j : Int) : SE := fun env => bindE (fe env) fun a env1 => match pk a env1 with
  | some (.int n) => some (.ok (.d (.bl (decide (i ≤ n) && decide (n ≤ j)))) env1)
  | _ => none
end
end Dw
namespace Dw
noncomputable section
open PySem PySem.Spec PyProof.Rows L2
variable [Glo] [Tabs]
def listTC : List D → Option RV
  | [.str s] => if s.length ≤ 100000 then some (.own (.lst (s.map fun c => .str [c]))) else none
  | _ => none
def rListT : List V → Hp → VK → Prop := fun xs H Q => ∃ s : List Nat, xs = [.str (mk s)] ∧ s.length ≤ 100000 ∧ ∀ l, H l = none → Q (.ref l) (upd H l (.lst (s.map fun c => V.str (mk [c]))))
theorem vals_signs : ∀ {s : List Nat} {us : List Value}, us.length = s.length → (∀ (j : Nat) v, us[j]? = some v → ∃ c t, s[j]? = some c ∧ v = .str ⟨#[c]⟩ t) → Vals (s.map fun c => V.str (mk [c])) us
  | [], [], _, _ => .nil
  | [], _ :: _, h, _ => by cases h
  | _ :: _, [], h, _ => by cases h
  | c :: s, u :: us, h, g => by
    obtain ⟨c', t, e1, e2⟩ := g 0 u rfl
    cases e1
    subst e2
    exact .cons ⟨t, rfl⟩ (vals_signs (by simpa using h) fun j v e => g (j + 1) v (by simpa using e))
theorem rel_signs {K : PySem.W.Frag} {F : Hp} : ∀ s : List Nat, RelAll K F (s.map fun c => V.str (mk [c])) (s.map fun c => D.str [c])
  | [] => .nil
  | c :: s => .cons (.str [c]) (rel_signs s)
theorem cr_listT {X : Cx} (hc : X.calm = true) : CallR X (.type "list") rListT := by
  intro pins s σ H xs us Q I r h
  obtain ⟨t, rfl, hz, q⟩ := h
  obtain ⟨u, rfl, tk, rfl⟩ := vals1 r
  have hs : (100000 : Nat) ≤ sizeLine := by decide
  have ht : (mk t).cps.size = t.length := by simp [mk]
  refine call_list_str (I.ok.hd hc) (mk t) tk (fun h' tk' acc c' hk hS hacc => ?_) (by rw [ht]; omega)
  have hv : Vals (t.map fun c => V.str (mk [c])) acc.toList := vals_signs (by rw [Array.length_toList, hacc.1, ht]) fun j v e => by
    obtain ⟨c, u, e1, e2⟩ := hacc.2 j v (by rw [← Array.getElem?_toList]; exact e)
    exact ⟨c, u, by simpa [mk] using e1, e2⟩
  exact ⟨.ref s.heap.objs.size, upd H s.heap.objs.size (.lst (t.map fun c => V.str (mk [c]))), I.laid (t' := tk') hk (Nat.le_refl _)
    (show ObjOk X.prog X.w _ _ _ (.lst (t.map fun c => V.str (mk [c]))) from ⟨by rw [List.length_map]; omega, acc.toList, c', hv, by rw [Array.toArray_toList]; exact hS⟩), rfl, q _ (I.hok.fresh (Nat.le_refl _))⟩
theorem snd_listT {K : PySem.W.Frag} : SndC K listTC rListT := by
  intro W F R σ H env Q xs vs z S h e p
  match xs, h, e with
  | [.str s], h, e =>
    obtain ⟨c, rfl⟩ := some_if e
    obtain ⟨v, rfl, hv⟩ := vw1 h
    cases hv
    exact ⟨s, rfl, c, fun q hq => post_new S p hq (rel_signs s)⟩
end
end Dw
namespace Dw
noncomputable section
open PySem PySem.Spec PyProof.Rows L2
variable [Glo] [Tabs]
def blsD : List D → Option (List Bool)
  | [] => some []
  | .bl b :: xs => (blsD xs).map (b :: ·)
  | _ => none
theorem blsD_rel {K : PySem.W.Frag} {F : Hp} : ∀ {xs : List D} {vs : List V} {bs : List Bool}, blsD xs = some bs → RelAll K F vs xs → vs = bs.map V.bl
  | [], _, _, e, r => by cases e; cases r; rfl
  | .bl b :: xs, _, bs, e, r => by
    have e : (blsD xs).map (b :: ·) = some bs := e
    rw [Option.map_eq_some_iff] at e
    obtain ⟨cs, e1, rfl⟩ := e
    cases r with
    | cons r1 r2 =>
      cases r1
      rw [blsD_rel e1 r2]
      rfl
  | .non :: _, _, _, e, _ => by cases e
  | .int _ :: _, _, _, e, _ => by cases e
  | .str _ :: _, _, _, e, _ => by cases e
  | .lst _ :: _, _, _, e, _ => by cases e
  | .tup _ :: _, _, _, e, _ => by cases e
def anyC : List D → Option RV
  | [.lst xs] => (blsD xs).map fun bs => .d (.bl (bs.any id))
  | _ => none
theorem snd_any {K : PySem.W.Frag} : SndC K anyC (rAny K) := by
  intro W F R σ H env Q xs vs z S hv e p
  match xs, e with
  | [.lst ys], e =>
    have e : ((blsD ys).map fun bs => RV.d (.bl (bs.any id))) = some z := e
    rw [Option.map_eq_some_iff] at e
    obtain ⟨bs, h1, rfl⟩ := e
    obtain ⟨v, rfl, hv'⟩ := vw1 hv
    obtain ⟨l, ws, rfl, s, r⟩ := hv'
    rw [blsD_rel h1 r] at s
    exact ⟨l, bs, rfl, s, post_d S p (.bl _)⟩
end
end Dw
namespace Dw
noncomputable section
open PySem PySem.Spec PyProof.Rows L2
/-- the code and the table of the def y -/
def cpOf (K : PySem.W.Frag) (y : Str) : Addr × Addr := (PySem.W.tabIn K y).getD (0, 0)
/-- ls: those of them whose table holds lambdas' code -/
abbrev tabsOf (K : PySem.W.Frag) (ys : List Str) (ls : List Str := []) : Tabs := ⟨fun z => ∃ y ∈ ys, z = (cpOf K y).2, none, fun z => (ls.find? fun y => z == (cpOf K y).2).map (· ++ ".<locals>.<lambda>")⟩
theorem cpOf_is {K : PySem.W.Frag} {y : Str} (h : tabFree K y = true) : PySem.W.tabIn K y = some (cpOf K y) ∧ K.lookup (cpOf K y).2 = none := by
  obtain ⟨c, P, e, n⟩ := tabFree_of h
  have e2 : cpOf K y = (c, P) := by unfold cpOf; rw [e]; rfl
  rw [e2]
  exact ⟨e, n⟩
theorem walk_tabs {ls : List Str} {l : PySem.W.OpenLaw} {n k : Nat} {q : Program} {loose : List Str} {XP : (Str → Option Value) → Heap → Prop} {YP : World → Heap → Prop} {d : DefRec} {K : Params → PySem.W.Frag} {x : Str} {m : List SV → Option FR} (gl : World → (Str → Option Value) → Glo) (ys : List Str)
    (hn : l.most = some n) (hn2 : n ≤ sizeLine) (hdf : d.params.defaults = []) (hr : Room k callerA) (hY : ∀ (w : World) (h : Heap), YP w h → (K w.params).In h)
    (hrec : (ys.all fun y => ((recsOf q).find? fun e => e.name == y).isSome) = true) (hfree : ∀ p : Params, (ys.all fun y => tabFree (K p) y) = true)
    (F : ∀ (w : World) (mg : Str → Option Value) (fa : Addr) (h : Heap), (K w.params).In h → h.Ns mainGlobals mg → mg d.name = some (.ref fa) → (∀ y ∈ ys, PySem.W.tabIn (K w.params) y = some (cpOf (K w.params) y)) →
      ∃ fd : FuncData, (∀ (s : Shared) (u : Value), BindsTo s fd ⟨[u], []⟩ [(x, u)]) ∧ ∀ base : Heap, (K w.params).In base → base.Ns mainGlobals mg → (∀ y ∈ ys, GxR.TabB base mg (cpOf (K w.params) y).1 (cpOf (K w.params) y).2) → FnOk l.prog w (K w.params) mg base CX0 k fa fd [x] (@spD (gl w mg) (tabsOf (K w.params) ys ls) (K w.params) 1 m))
    (hm : ∀ (_ : Glo) (_ : Tabs) (ns : List Int), ns.length ≤ n → ∃ o, m [.d (.lst (ns.map .int))] = some (.ok (.d (.bl true)) o)) :
    PySem.W.WalkO q loose XP YP l.row.toRowW d [] (fun f vs => PySem.call f vs) := by
  refine Att.attach_callB hn hdf fun w s₀ s₁ mg mb fa o pm cd doc a vs ns G Y ho hd hcd hmg hobj hints hlen hbits hg => ?_
  have KX := hY w _ Y
  have fr : ∀ y ∈ ys, PySem.W.tabIn (K w.params) y = some (cpOf (K w.params) y) ∧ (K w.params).lookup (cpOf (K w.params) y).2 = none := fun y hy => cpOf_is (List.all_eq_true.mp (hfree w.params) y hy)
  have tb : ∀ y ∈ ys, PySem.W.CodeHd s₁.heap (cpOf (K w.params) y).1 (cpOf (K w.params) y).2 ∧ s₁.heap.get? (cpOf (K w.params) y).2 = some { cls := .none, data := .fields #[] } := fun y hy => by
    obtain ⟨dr, hdr⟩ := Option.isSome_iff_exists.mp (List.all_eq_true.mp hrec y hy)
    exact PySem.W.tab_of G.T KX hdr (fr y hy).1
  obtain ⟨fd, hb, hF⟩ := F w mg fa _ KX G.T.g hmg fun y hy => (fr y hy).1
  have of : ∀ {p : Addr × Addr}, p ∈ ys.map (cpOf (K w.params)) → ∃ y ∈ ys, p = cpOf (K w.params) y := fun h => let ⟨y, h1, h2⟩ := List.mem_map.mp h; ⟨y, h1, h2.symm⟩
  refine LamX.law_callTs (cs := ys.map (cpOf (K w.params))) KX G.T.g G.T.b G.T.builtins G.T.nolimit hg (fun p h => by obtain ⟨y, hy, rfl⟩ := of h; exact (tb y hy).2) (fun p h => by obtain ⟨y, hy, rfl⟩ := of h; exact (fr y hy).2) (fun p h => by obtain ⟨y, hy, rfl⟩ := of h; exact (tb y hy).1) G.T.bmain hobj hints (Nat.le_trans hlen hn2) hr
    (fun base h1 h2 h3 => hF base h1 h2 fun y hy => let t := h3 _ (List.mem_map.mpr ⟨y, hy, rfl⟩); ⟨t.code, t.bm, t.gP⟩) hb (fun H hH hS => ?_) (fun H e s' h => h)
  obtain ⟨o, ho⟩ := hm (gl w mg) (tabsOf (K w.params) ys ls) ns hlen
  refine @law_sp (gl w mg) (tabsOf (K w.params) ys ls) _ _ _ _ _ _ _ (fun z hz => ?_) hS ho
  obtain ⟨y, hy, hz⟩ : ∃ y ∈ ys, z = (cpOf (K w.params) y).2 := hz
  subst hz
  exact hH _ (List.mem_map.mpr ⟨y, hy, rfl⟩)
end
end Dw
namespace Dw
end Dw
namespace Dw
noncomputable section
open PySem PySem.Spec PyProof.Rows L2
variable [Glo] [Tabs]
section
variable {X : Cx} {W : WX} {st : Stmt} {e : Expr}
theorem ps_und : PS X st (dS X.K W fun _ => none) := ⟨fun pins s σ H D I h => by
  obtain ⟨env, F, R, o, _, e, _⟩ := h
  cases e⟩
end
end
end Dw
namespace Dw
noncomputable section
open PySem PySem.Spec PyProof.Rows L2
variable [Glo] [Tabs]
def defX (np n : Nat) (body : SS) (args : List SV) : Option FR := if args.length = np then runF n body args else none
theorem ite_none {α : Type} {c : Prop} [Decidable c] {x : Option α} {y : α} (h : (if c then x else none) = some y) : c ∧ x = some y := by
  by_cases hc : c
  · rw [if_pos hc] at h; exact ⟨hc, h⟩
  · rw [if_neg hc] at h; cases h
theorem dS_run {K : PySem.W.Frag} {N ps : List Str} {n : Nat} {body : SS} {vs : List V} {H : Hp} {Q : VK} {E : XK} (hn : N.length = ps.length + n) (h : spD K ps.length (defX ps.length n body) vs H Q E) :
    dS K (fun cls d _ H' => E cls d H') body { nx := fun _ H' => Q .non H', rt := Q } (L2.start N vs) H := by
  obtain ⟨F1, R, args, r, h1, S1, e, p⟩ := h
  have hv : vs.length = ps.length := by
    have := S1.len
    rw [List.length_map] at this
    omega
  have S2 := S1.start (N := N) (n := n) (by omega)
  obtain ⟨_, hr⟩ := ite_none e
  unfold runF at hr
  cases hbd : body (args ++ List.replicate n .un) with
  | none => rw [hbd] at hr; cases hr
  | some o =>
    rw [hbd] at hr
    refine ⟨_, F1, R, o, S2, hbd, ?_⟩
    cases o with
    | rt a0 env =>
      dsimp only at hr
      rw [Option.bind_eq_some_iff] at hr
      obtain ⟨a', h3, hr⟩ := hr
      rw [Option.map_eq_some_iff] at hr
      obtain ⟨o', h4, hr⟩ := hr
      cases hr
      exact fun v σ' F' H' e1 S3 rv => p v F' H' e1 (S1.backs e1 S3 h4) (RvOk.backs S1 S3 h4 rv h3)
    | nx env =>
      dsimp only at hr
      rw [Option.map_eq_some_iff] at hr
      obtain ⟨o', h4, hr⟩ := hr
      cases hr
      exact fun σ' F' H' e1 S3 => p .non F' H' e1 (S1.backs e1 S3 h4) .non
    | bk env => cases hr
    | ct env => cases hr
    | ex x env =>
      dsimp only at hr
      rw [Option.map_eq_some_iff] at hr
      obtain ⟨o', h4, hr⟩ := hr
      cases hr
      exact fun cls d σ' F' H' e1 S3 hx => p cls d F' H' e1 (S1.backs e1 S3 h4) hx
theorem spD_len {K : PySem.W.Frag} {ps : List Str} {m : List SV → Option FR} : ∀ vs H Q E, spD K ps.length m vs H Q E → vs.length = ps.length := fun vs H Q E h => by
  obtain ⟨F, R, args, r, h1, h2, _⟩ := h
  have := h2.len
  rw [List.length_map] at this
  omega
section
variable {P : Program} {w : World} {K : PySem.W.Frag} {mg : Str → Option Value} {base : Heap}
theorem noX_some {r : Option FR} {q : FR} (h : noX r = some q) : r = some q := by
  cases r with
  | none => cases h
  | some x => cases x <;> first | exact h | cases h
theorem dS_run0 {N ps : List Str} {n : Nat} {body : SS} {vs : List V} {H : Hp} {Q : VK} {E : XK} (hn : N.length = ps.length + n) (h : spD K ps.length (defM ps.length n body) vs H Q E) :
    dS K W0 body { nx := fun _ H' => Q .non H', rt := Q } (L2.start N vs) H := by
  obtain ⟨F1, R, args, r, h1, S1, e, p⟩ := h
  obtain ⟨h2, e⟩ := ite_none e
  have hx : ∀ x o, r ≠ .ex x o := fun x o z => by
    subst z
    cases hr : runF n body args with
    | none => rw [hr] at e; cases e
    | some q => rw [hr] at e; cases q <;> cases e
  have q : spD K ps.length (defX ps.length n body) vs H Q (fun _ _ _ => False) := ⟨F1, R, args, r, h1, S1, by unfold defX; rw [if_pos h2]; exact noX_some e, by
    cases r with
    | ok a o => exact p
    | ex x o => exact absurd rfl (hx x o)⟩
  exact dS_run hn q
/-- a def that raises nothing, whose parameters have defaults -/
theorem fndD {x qual : Str} {st : Stmt} {f : Addr} {fd : FuncData} {N ps : List Str} {k n : Nat} {body : SS} {dvs : List V} (F : FunD K x qual (defArgs st) (defBody st) (defScope st) dvs [] f fd) (S : FnScope N ps (defScope st)) (hn : N.length = ps.length + n)
    (hb : ∀ (cdv : Value) (A : Around) (outer : List Env) (s : Shared) (H : Hp) (E : XK), Room k (A.deeper (envOfC qual (defScope st) s.heap.objs.size f cdv)) →
      PSs (cxOf CX0 P w K mg base N qual (defScope st) f cdv A outer s H E).nox (defBody st) (dS K W0 body)) : FnOk P w K mg base CX0 (k + 1) f fd ps (spD K ps.length (defM ps.length n body)) :=
  F.ok S spD_len fun cdv A outer s H vs Q E hr h => ⟨_, (hb cdv A outer s H E hr).nox, dS_run0 hn h⟩
end
structure DefG (CX : CXT) (P : Program) (w : World) (K : PySem.W.Frag) (mg : Str → Option Value) (base : Heap) (k : Nat) (x : Str) (np : Nat) (m : List SV → Option FR) (dfs : List D) : Prop where
  ex : ∃ (f : Addr) (fd : FuncData) (ps : List Str) (ds : List Value) (dvs : List V), FnOk P w K mg base CX k f fd ps (spD K np m) ∧ mg x = some (.ref f) ∧ PySem.W.keepIn K (.ref f) = true ∧ Binds K fd ps ds ∧ Vals dvs ds ∧ (∀ F : Hp, RelAll K F dvs dfs) ∧ ∀ as fr, m as = some fr → as.length = np
theorem DefG.mk0 {CX : CXT} {P : Program} {w : World} {K : PySem.W.Frag} {mg : Str → Option Value} {base : Heap} {k : Nat} {x : Str} {m : List SV → Option FR} {f : Addr} {fd : FuncData} {ps : List Str} (F : FnOk P w K mg base CX k f fd ps (spD K ps.length m)) (hl : ∀ as fr, m as = some fr → as.length = ps.length) (hm : mg x = some (.ref f)) (hk : PySem.W.keepIn K (.ref f) = true) (hb : Binds K fd ps []) : DefG CX P w K mg base k x ps.length m [] :=
  ⟨f, fd, ps, [], [], F, hm, hk, hb, .nil, fun _ => .nil, hl⟩
theorem DefG.mkD {CX : CXT} {P : Program} {w : World} {K : PySem.W.Frag} {mg : Str → Option Value} {base : Heap} {k : Nat} {x : Str} {m : List SV → Option FR} {f : Addr} {fd : FuncData} {ps : List Str} {dvs : List V} {dfs : List D} (F : FnOk P w K mg base CX k f fd ps (spD K ps.length m)) (hl : ∀ as fr, m as = some fr → as.length = ps.length) (hm : mg x = some (.ref f)) (hk : PySem.W.keepIn K (.ref f) = true) (hb : ∃ ds, Vals dvs ds ∧ Binds K fd ps ds) (hd : ∀ F : Hp, RelAll K F dvs dfs) : DefG CX P w K mg base k x ps.length m dfs :=
  let ⟨ds, h1, h2⟩ := hb
  ⟨f, fd, ps, ds, dvs, F, hm, hk, h2, h1, hd, hl⟩
theorem DefG.to {P : Program} {w : World} {K : PySem.W.Frag} {mg : Str → Option Value} {base : Heap} {k : Nat} {x : Str} {np : Nat} {m : List SV → Option FR} {dfs : List D} (C : DefG CX0 P w K mg base k x np m dfs) : Def P w K mg base k x np m dfs := ⟨C.ex⟩
end
end Dw
namespace Dw
noncomputable section
open PySem PySem.Spec PyProof.Rows L2
variable [Glo] [Tabs]
def xnOf (x : Str) (d : D) : Xn := ⟨x, [("place", d), ("word", .str x.cps.toList)]⟩
def raiseS (x : Str) (fa : SA) : SS := fun env => match fa env with
  | some (.ok as env1) => (frzs as env1).bind fun p => match p.1 with
    | [d] => some (.ex (xnOf x d) p.2)
    | _ => none
  | some (.ex e env1) => some (.ex e env1)
  | none => none
def raiseNS (x : Str) : SS := fun env => some (.ex (xnOf x .non) env)
end
end Dw
namespace Dw
noncomputable section
open PySem PySem.Spec PyProof.Rows L2
variable [Glo] [Tabs]
def xfE (i : Nat) (f : Str) : SE := fun env => match env[i]? with
  | some (.xn e) => (e.fs.lookup f).map fun x => .ok (.d x) env
  | _ => none
def isxE (i : Nat) (cl : List Str) : SE := fun env => match env[i]? with
  | some (.xn e) => some (.ok (.d (.bl (decide (e.cls ∈ cl)))) env)
  | _ => none
section
variable {X : Cx} {W : WX} {a : Addr} {oe : Obj} {cls : Value} {d : Option Addr} {pn : List (Addr × Obj)} {i : Nat} {n f : Str} {pos p : Pos}
/-- several readings of one thing -/
theorem _root_.L2.PE.some {X : Cx} {e : Expr} {ι : Type} {P : ι → Prop} {t : ι → TE} (h : ∀ c, P c → PE X e (t c)) : PE X e (fun σ H Q => ∃ c, P c ∧ t c σ H Q) := ⟨fun pins s σ H Q I ⟨c, h1, q⟩ => (h c h1).run pins s σ H Q I q⟩
end
end
end Dw
namespace Dw
noncomputable section
open PySem PySem.Spec PyProof.Rows L2
variable [Glo] [Tabs]
def chainE (g g' : D → D → Option RV) (fa fb fc : SE) : SE := fun env => bindE (fa env) fun a env1 => bindE (fb env1) fun b env2 =>
  (pk a env2).bind fun x => (pk b env2).bind fun y => match g x y with
    | some (.d (.bl true)) => bindE (fc env2) fun c env3 => (pk b env3).bind fun y' => (pk c env3).bind fun z => (g' y' z).map (Re.ok · env3)
    | some (.d (.bl false)) => some (.ok (.d (.bl false)) env2)
    | _ => none
def callD0 (m : List SV → Option FR) (dfs : List D) : SE := fun env => (m (dfs.map .d)).bind (outD env)
end
end Dw
namespace Dw
noncomputable section
open PySem PySem.Spec PyProof.Rows L2
variable [Glo] [Tabs]
section
variable {K : PySem.W.Frag} {mg : Str → Option Value}
theorem funD_mk {x qual : Str} {st : Stmt} {f T : Addr} {oc : Value} {od an odT : Option Addr} {osl slT : Array (Option Value)} {kV doc pm cdv ct ocT : Value} {its : List Value} {n : Nat} {dvs : List V} (l : K.lookup f = some ⟨oc, od, .func (PySem.W.fnOf x qual (defArgs st) (defBody st) (defScope st) (.ref T) kV doc pm an cdv ct), osl⟩)
    (c : PySem.W.codeIn K cdv qual = true) (k : PySem.W.keepIn K (.ref f) = true) (lT : K.lookup T = some ⟨ocT, odT, .seq its.toArray n, slT⟩) (hv : Vals dvs its) (hne : dvs ≠ []) : FunD K x qual (defArgs st) (defBody st) (defScope st) dvs [] f (PySem.W.fnOf x qual (defArgs st) (defBody st) (defScope st) (.ref T) kV doc pm an cdv ct) :=
  ⟨⟨oc, od, .ref T, kV, doc, pm, an, cdv, ct, osl, rfl, l, c, .inr ⟨hne, T, _, its, n, rfl, lT, rfl, hv⟩, .inl rfl⟩, k⟩
end
end
end Dw
namespace Dw
section
variable [Glo] [Tabs]
@[simp] theorem cD_lst {xs : List D} : cD (.lst xs) = .lst xs := rfl
end
end Dw
namespace Dw
noncomputable section
open PySem PySem.Spec PyProof.Rows L2
variable [Glo] [Tabs]
abbrev QE := RV → Sl → Prop
abbrev QX := Xn → Sl → Prop
def wr (r : Option Re) (Q : QE) (E : QX) : Prop := match r with
  | some (.ok a e) => Q a e
  | some (.ex x e) => E x e
  | none => False
def wra (r : Option ReA) (Q : List RV → Sl → Prop) (E : QX) : Prop := match r with
  | some (.ok a e) => Q a e
  | some (.ex x e) => E x e
  | none => False
def wri (r : Option ReI) (Q : List D → Sl → Prop) (E : QX) : Prop := match r with
  | some (.ok a e) => Q a e
  | some (.ex x e) => E x e
  | none => False
structure Ks where
  rt : QE
  bk : Sl → Prop
  ct : Sl → Prop
  ex : QX
def wrs (r : Option Out) (N : Sl → Prop) (k : Ks) : Prop := match r with
  | some (.nx e) => N e
  | some (.rt a e) => k.rt a e
  | some (.bk e) => k.bk e
  | some (.ct e) => k.ct e
  | some (.ex x e) => k.ex x e
  | none => False
def wF (r : Option FR) (Q : RV → List SV → Prop) (E : Xn → List SV → Prop) : Prop := match r with
  | some (.ok a o) => Q a o
  | some (.ex x o) => E x o
  | none => False
def wE (f : SE) (env : Sl) (Q : QE) (E : QX) : Prop := wr (f env) Q E
def wA (f : SA) (env : Sl) (Q : List RV → Sl → Prop) (E : QX) : Prop := wra (f env) Q E
def wI (f : SI) (env : Sl) (Q : List D → Sl → Prop) (E : QX) : Prop := wri (f env) Q E
def wS (f : SS) (env : Sl) (N : Sl → Prop) (k : Ks) : Prop := wrs (f env) N k
def nE : QX := fun _ _ => False
def nS : Sl → Prop := fun _ => False
def nX : Xn → List SV → Prop := fun _ _ => False
section
variable {env env1 env2 : Sl} {a b : RV} {x y dx dy : D} {z : RV} {i : Nat} {f g : D → D → Option RV} {fa fb fc fo fe : SE} {as : List RV} {fr fs : SA} {xs ys : List D} {r : Option Re} {Q : QE} {E : QX} {QA : List RV → Sl → Prop} {QI : List D → Sl → Prop}
theorem wr_mono {Q' : QE} {E' : QX} (h : wr r Q E) (hq : ∀ a e, Q a e → Q' a e) (he : ∀ x e, E x e → E' x e) : wr r Q' E' := by
  cases r with
  | none => exact h.elim
  | some r => cases r with
    | ok a e => exact hq _ _ h
    | ex x e => exact he _ _ h
theorem wF_get {r : Option FR} {Q : RV → List SV → Prop} (h : wF r Q nX) : ∃ a o, r = some (.ok a o) ∧ Q a o := by
  cases r with
  | none => exact h.elim
  | some r => cases r with
    | ok a o => exact ⟨a, o, rfl, h⟩
    | ex x o => exact h.elim
theorem wr_ok {a : RV} {e : Sl} (h : r = some (.ok a e)) (q : Q a e) : wr r Q E := by subst h; exact q
theorem wr_bind {k : RV → SE} (h : wr r (fun a e => wr (k a e) Q E) E) : wr (bindE r k) Q E := by
  cases r with
  | none => exact h.elim
  | some r => cases r with
    | ok a e => exact h
    | ex x e => exact h
theorem wra_bind {k : RV → SA} (h : wr r (fun a e => wra (k a e) QA E) E) : wra (bindEA r k) QA E := by
  cases r with
  | none => exact h.elim
  | some r => cases r with
    | ok a e => exact h
    | ex x e => exact h
theorem wr_bindA {r : Option ReA} {k : List RV → SE} (h : wra r (fun a e => wr (k a e) Q E) E) : wr (bindA r k) Q E := by
  cases r with
  | none => exact h.elim
  | some r => cases r with
    | ok a e => exact h
    | ex x e => exact h
theorem wri_bind {k : RV → SI} (h : wr r (fun a e => wri (k a e) QI E) E) : wri (bindI r k) QI E := by
  cases r with
  | none => exact h.elim
  | some r => cases r with
    | ok a e => exact h
    | ex x e => exact h
theorem wri_bindA {r : Option ReA} {k : List RV → SI} (h : wra r (fun a e => wri (k a e) QI E) E) : wri (bindAI r k) QI E := by
  cases r with
  | none => exact h.elim
  | some r => cases r with
    | ok a e => exact h
    | ex x e => exact h
theorem wrs_bind {k : RV → SS} {N : Sl → Prop} {K : Ks} (h : wr r (fun a e => wrs (k a e) N K) K.ex) : wrs (bindS r k) N K := by
  cases r with
  | none => exact h.elim
  | some r => cases r with
    | ok a e => exact h
    | ex x e => exact h
theorem w_const (q : Q (.d x) env) : wE (constE x) env Q E := q
theorem w_var (h : env[i]? = some (.d x)) (q : Q (.d x) env) : wE (varE i) env Q E := wr_ok (ev_var h) q
theorem w_varO {c : C} {t : Bool} (h : env[i]? = some (.own t c)) (q : Q (.cv i) env) : wE (varE i) env Q E := wr_ok (ev_varO h) q
theorem w_two (h : wE fa env (fun u e1 => wE fb e1 (fun v e2 => wr (op2 f u v e2) Q E) E) E) : wE (two (op2 f) fa fb) env Q E := wr_bind (wr_mono h (fun _ _ h => wr_bind h) fun _ _ h => h)
theorem w_op (hx : pk a env = some dx) (hy : pk b env = some dy) (hz : f dx dy = some z) (q : Q z env) : wr (op2 f a b env) Q E := by
  unfold op2; rw [hx, Option.bind_some, hy, Option.bind_some, hz]; exact q
theorem w_one {g : D → Option RV} (h : wE fa env (fun u e1 => wr ((pk u e1).bind fun x => (g x).map (Re.ok · e1)) Q E) E) : wE (oneE g fa) env Q E := wr_bind h
theorem w_op1 {g : D → Option RV} (hx : pk a env = some dx) (hz : g dx = some z) (q : Q z env) : wr ((pk a env).bind fun x => (g x).map (Re.ok · env)) Q E := by
  rw [hx, Option.bind_some, hz]; exact q
def wB (a : RV) (env : Sl) (T F : Prop) : Prop := ∃ t, tru a env = some t ∧ (t = true → T) ∧ (t = false → F)
theorem w_b {t : Bool} {T F : Prop} (h : tru a env = some t) (hT : t = true → T) (hF : t = false → F) : wB a env T F := ⟨t, h, hT, hF⟩
theorem w_bT {T F : Prop} (h : tru a env = some true) (hT : T) : wB a env T F := ⟨true, h, fun _ => hT, fun h => by cases h⟩
theorem w_bF {T F : Prop} (h : tru a env = some false) (hF : F) : wB a env T F := ⟨false, h, fun h => (by cases h), fun _ => hF⟩
theorem w_not (h : wE fa env (fun u e1 => wr ((tru u e1).map fun b => Re.ok (.d (.bl (!b))) e1) Q E) E) : wE (notE fa) env Q E := wr_bind h
theorem w_not1 {t : Bool} (h : tru a env = some t) (q : Q (.d (.bl (!t))) env) : wr ((tru a env).map fun b => Re.ok (.d (.bl (!b))) env) Q E := by rw [h]; exact q
theorem w_and (h : wE fa env (fun u e1 => wB u e1 (wE fb e1 Q E) (Q u e1)) E) : wE (andE fa fb) env Q E :=
  wr_bind (wr_mono h (fun u e1 h => by
    obtain ⟨t, h1, h2, h3⟩ := h
    rw [h1]
    cases t with
    | true => exact h2 rfl
    | false => exact h3 rfl) fun _ _ h => h)
theorem w_or (h : wE fa env (fun u e1 => wB u e1 (Q u e1) (wE fb e1 Q E)) E) : wE (orE fa fb) env Q E :=
  wr_bind (wr_mono h (fun u e1 h => by
    obtain ⟨t, h1, h2, h3⟩ := h
    rw [h1]
    cases t with
    | true => exact h2 rfl
    | false => exact h3 rfl) fun _ _ h => h)
theorem w_ife (h : wE fc env (fun u e1 => wB u e1 (wE fa e1 Q E) (wE fb e1 Q E)) E) : wE (ifE fc fa fb) env Q E :=
  wr_bind (wr_mono h (fun u e1 h => by
    obtain ⟨t, h1, h2, h3⟩ := h
    rw [h1]
    cases t with
    | true => exact h2 rfl
    | false => exact h3 rfl) fun _ _ h => h)
theorem w_nil (q : QA [] env) : wA nilA env QA E := q
theorem wra_map {r : Option ReA} {h : List RV → List RV} (q : wra r (fun as e => QA (h as) e) E) : wra (mapA r h) QA E := by
  cases r with
  | none => exact q.elim
  | some r => cases r with
    | ok a e => exact q
    | ex x e => exact q
theorem w_cons (h : wE fa env (fun u e1 => wA fs e1 (fun as e2 => QA (u :: as) e2) E) E) : wA (consA fa fs) env QA E := wra_bind (wr_mono h (fun _ _ h => wra_map h) fun _ _ h => h)
theorem w_callE {g : List D → Option RV} (h : wA fs env (fun as e1 => wr ((pks as e1).bind fun xs => (g xs).map (Re.ok · e1)) Q E) E) : wE (callE g fs) env Q E := wr_bindA h
theorem w_opE {g : List D → Option RV} (hx : pks as env = some xs) (hz : g xs = some z) (q : Q z env) : wr ((pks as env).bind fun xs => (g xs).map (Re.ok · env)) Q E := by
  rw [hx, Option.bind_some, hz]; exact q
theorem w_isi {n : String} (h : wE fa env (fun u e1 => wr ((pk u e1).bind fun x => if okI x then some (Re.ok (.d (.bl (isiD n x))) e1) else none) Q E) E) : wE (isiE n fa) env Q E := wr_bind h
theorem w_isi1 {n : String} (hx : pk a env = some x) (o : okI x = true) (q : Q (.d (.bl (isiD n x))) env) : wr ((pk a env).bind fun x => if okI x then some (Re.ok (.d (.bl (isiD n x))) env) else none) Q E := by
  rw [hx, Option.bind_some, if_pos o]; exact q
theorem w_tup (h : wA fs env (fun as e1 => wr ((frzs as e1).bind fun p => if p.1.length ≤ 100000 then some (Re.ok (.d (.tup p.1)) p.2) else none) Q E) E) : wE (tupE fs) env Q E := wr_bindA h
theorem w_tup1 (h : frzs as env = some (xs, env1)) (hl : xs.length ≤ 100000) (q : Q (.d (.tup xs)) env1) : wr ((frzs as env).bind fun p => if p.1.length ≤ 100000 then some (Re.ok (.d (.tup p.1)) p.2) else none) Q E := by
  rw [h, Option.bind_some, if_pos hl]; exact q
theorem w_lst (h : wA fs env (fun as e1 => wr ((frzs as e1).bind fun p => if p.1.length ≤ 100000 then some (Re.ok (.own (.lst p.1)) p.2) else none) Q E) E) : wE (lstE fs) env Q E := wr_bindA h
theorem w_lst1 (h : frzs as env = some (xs, env1)) (hl : xs.length ≤ 100000) (q : Q (.own (.lst xs)) env1) : wr ((frzs as env).bind fun p => if p.1.length ≤ 100000 then some (Re.ok (.own (.lst p.1)) p.2) else none) Q E := by
  rw [h, Option.bind_some, if_pos hl]; exact q
theorem w_met {T : String} {g : D → List D → Option RV} (h : wE fo env (fun u e1 => wr ((pk u e1).bind fun x0 => if tyD x0 = T then bindA (fs e1) fun as env2 => (pk u env2).bind fun x => (pks as env2).bind fun xs => (g x xs).map (Re.ok · env2) else none) Q E) E) : wE (metE T g fo fs) env Q E := wr_bind h
theorem w_met1 {T : String} {g : D → List D → Option RV} (hx : pk a env = some x) (ht : tyD x = T) (h : wA fs env (fun as e2 => wr ((pk a e2).bind fun x => (pks as e2).bind fun xs => (g x xs).map (Re.ok · e2)) Q E) E) :
    wr ((pk a env).bind fun x0 => if tyD x0 = T then bindA (fs env) fun as env2 => (pk a env2).bind fun x => (pks as env2).bind fun xs => (g x xs).map (Re.ok · env2) else none) Q E := by
  rw [hx, Option.bind_some, if_pos ht]; exact wr_bindA h
theorem w_met2 {g : D → List D → Option RV} (hx : pk a env = some x) (hs : pks as env = some xs) (hz : g x xs = some z) (q : Q z env) : wr ((pk a env).bind fun x => (pks as env).bind fun xs => (g x xs).map (Re.ok · env)) Q E := by
  rw [hx, Option.bind_some, hs, Option.bind_some, hz]; exact q
/-- calls -/
def wC (r : Option FR) (env : Sl) (Q : QE) (E : QX) : Prop := wF r (fun u _ => ∃ u', retV u = some u' ∧ Q u' env) (fun x _ => E x env)
theorem wC_wr {r : Option FR} (h : wC r env Q E) : wr (r.bind (outD env)) Q E := by
  cases r with
  | none => exact h.elim
  | some r => cases r with
    | ok a o =>
      obtain ⟨u', h1, h2⟩ := h
      show wr ((retV a).map (Re.ok · env)) Q E
      rw [h1]; exact h2
    | ex x o => exact h
theorem w_callD {m : List SV → Option FR} {ds : List D} (h : wA fs env (fun as e1 => wr ((frzs as e1).bind fun p => (m ((p.1 ++ ds).map .d)).bind (outD p.2)) Q E) E) : wE (callD m ds fs) env Q E := wr_bindA h
theorem w_callD1 {m : List SV → Option FR} {ds : List D} {vs : List SV} (h : frzs as env = some (xs, env1)) (he : (xs ++ ds).map SV.d = vs) (q : wC (m vs) env1 Q E) : wr ((frzs as env).bind fun p => (m ((p.1 ++ ds).map .d)).bind (outD p.2)) Q E := by
  rw [h, Option.bind_some]; dsimp only; rw [he]; exact wC_wr q
theorem w_callD0 {m : List SV → Option FR} {ds : List D} (q : wC (m (ds.map .d)) env Q E) : wE (callD0 m ds) env Q E := wC_wr q
theorem wC_ok {r : Option FR} {u u' : RV} {o : List SV} (h : r = some (.ok u o)) (hr : retV u = some u') (q : Q u' env) : wC r env Q E := by subst h; exact ⟨u', hr, q⟩
/-- a call that changes a list of one's own -/
def wM (r : Option FR) (i j : Nat) (t : Bool) (env : Sl) (Q : QE) (E : QX) : Prop := wF r (fun u o => ∃ t' c u', o[j]? = some (.own true c) ∧ t' = env.set i (.own t c) ∧ retV u = some u' ∧ Q u' t') (fun x o => ∃ c t', o[j]? = some (.own true c) ∧ t' = env.set i (.own t c) ∧ E x t')
theorem wM_wr {r : Option FR} {i j : Nat} {t : Bool} (h : wM r i j t env Q E) : wr (r.bind (outM i j t env)) Q E := by
  cases r with
  | none => exact h.elim
  | some r => cases r with
    | ok a o =>
      obtain ⟨t', c, u', h0, rfl, h1, h2⟩ := h
      show wr (match o[j]? with
        | some (.own true c) => (retV a).map (Re.ok · (env.set i (.own t c)))
        | _ => none) Q E
      rw [h0]
      dsimp only
      rw [h1]; exact h2
    | ex x o =>
      obtain ⟨c, t', h0, rfl, h2⟩ := h
      show wr (match o[j]? with
        | some (.own true c) => some (.ex x (env.set i (.own t c)))
        | _ => none) Q E
      rw [h0]; exact h2
theorem w_callM {j : Nat} {m : List SV → Option FR} {ds : List D} (h : wA fs env (fun as e1 => wr (match as[j]? with
  | some (.cv i) => (frzs (as.set j (.d .non)) e1).bind fun p => match p.2[i]? with
    | some (.own b c) => (m (((p.1 ++ ds).map .d).set j (.own true c))).bind (outM i j b p.2)
    | _ => none
  | _ => none) Q E) E) : wE (callM j m ds fs) env Q E := wr_bindA h
theorem w_callM1 {i j : Nat} {t : Bool} {c : C} {m : List SV → Option FR} {ds : List D} {as' : List RV} {vs vs' : List SV} (h1 : as[j]? = some (.cv i)) (ha : as.set j (.d .non) = as') (h2 : frzs as' env = some (xs, env1)) (h3 : env1[i]? = some (.own t c)) (he : (xs ++ ds).map SV.d = vs) (he' : vs.set j (.own true c) = vs') (q : wM (m vs') i j t env1 Q E) :
    wr (match as[j]? with
  | some (.cv i) => (frzs (as.set j (.d .non)) env).bind fun p => match p.2[i]? with
    | some (.own b c) => (m (((p.1 ++ ds).map .d).set j (.own true c))).bind (outM i j b p.2)
    | _ => none
  | _ => none) Q E := by
  rw [h1]; dsimp only; rw [ha, h2, Option.bind_some]; dsimp only; rw [h3]; dsimp only; rw [he, he']; exact wM_wr q
theorem wM_ok {r : Option FR} {i j : Nat} {t : Bool} {u u' : RV} {o : List SV} {c : C} (h : r = some (.ok u o)) (ho : o[j]? = some (.own true c)) (he : env.set i (.own t c) = env1) (hr : retV u = some u') (q : Q u' env1) : wM r i j t env Q E := by subst h; exact ⟨_, c, u', ho, he.symm, hr, q⟩
/-- things that change a list -/
theorem w_mut {g : List D → List D → Option (D × List D)} (h : wE fo env (fun u e1 => wr (match u with
  | .cv i => (ownL e1[i]?).bind fun _ => bindA (fs e1) fun as env2 => (frzs as env2).bind fun p => (ownL p.2[i]?).bind fun o => (g o.2 p.1).map fun q => Re.ok (.d q.1) (p.2.set i (.own o.1 (.lst q.2)))
  | _ => none) Q E) E) : wE (mutE g fo fs) env Q E := wr_bind h
theorem w_mut1 {g : List D → List D → Option (D × List D)} {t : Bool} (h : env[i]? = some (.own t (.lst ys))) (q : wA fs env (fun as e2 => wr ((frzs as e2).bind fun p => (ownL p.2[i]?).bind fun o => (g o.2 p.1).map fun q => Re.ok (.d q.1) (p.2.set i (.own o.1 (.lst q.2)))) Q E) E) :
    wr (match RV.cv i with
  | .cv i => (ownL env[i]?).bind fun _ => bindA (fs env) fun as env2 => (frzs as env2).bind fun p => (ownL p.2[i]?).bind fun o => (g o.2 p.1).map fun q => Re.ok (.d q.1) (p.2.set i (.own o.1 (.lst q.2)))
  | _ => none) Q E := by
  dsimp only; rw [h]; exact wr_bindA q
theorem w_mut2 {g : List D → List D → Option (D × List D)} {t : Bool} {ys' : List D} (h : frzs as env = some (xs, env1)) (h2 : env1[i]? = some (.own t (.lst ys))) (h3 : g ys xs = some (x, ys')) (h4 : env1.set i (.own t (.lst ys')) = env2) (q : Q (.d x) env2) :
    wr ((frzs as env).bind fun p => (ownL p.2[i]?).bind fun o => (g o.2 p.1).map fun q => Re.ok (.d q.1) (p.2.set i (.own o.1 (.lst q.2)))) Q E := by
  subst h4
  rw [h, Option.bind_some]; dsimp only; rw [h2]; show wr ((g ys xs).map _) Q E; rw [h3]; exact q
theorem w_ext (h : wE fo env (fun u e1 => wr (match u with
  | .cv i => (ownL e1[i]?).bind fun _ => bindE (fe e1) fun b env2 => match b with
    | .own (.lst zs) => (ownL env2[i]?).bind fun o => if o.2.length + zs.length ≤ 100000 then some (.ok (.d .non) (env2.set i (.own o.1 (.lst (o.2 ++ zs))))) else none
    | _ => none
  | _ => none) Q E) E) : wE (extE fo fe) env Q E := wr_bind h
theorem w_ext1 {t : Bool} (h : env[i]? = some (.own t (.lst ys))) (q : wE fe env (fun v env2 => wr (match v with
    | .own (.lst zs) => (ownL env2[i]?).bind fun o => if o.2.length + zs.length ≤ 100000 then some (.ok (.d .non) (env2.set i (.own o.1 (.lst (o.2 ++ zs))))) else none
    | _ => none) Q E) E) :
    wr (match RV.cv i with
  | .cv i => (ownL env[i]?).bind fun _ => bindE (fe env) fun b env2 => match b with
    | .own (.lst zs) => (ownL env2[i]?).bind fun o => if o.2.length + zs.length ≤ 100000 then some (.ok (.d .non) (env2.set i (.own o.1 (.lst (o.2 ++ zs))))) else none
    | _ => none
  | _ => none) Q E := by
  dsimp only; rw [h]; exact wr_bind q
theorem w_ext2 {t : Bool} (h : env[i]? = some (.own t (.lst ys))) (hl : ys.length + xs.length ≤ 100000) (h4 : env.set i (.own t (.lst (ys ++ xs))) = env2) (q : Q (.d .non) env2) :
    wr (match RV.own (.lst xs) with
    | .own (.lst zs) => (ownL env[i]?).bind fun o => if o.2.length + zs.length ≤ 100000 then some (.ok (.d .non) (env.set i (.own o.1 (.lst (o.2 ++ zs))))) else none
    | _ => none) Q E := by
  subst h4
  dsimp only; rw [h]; show wr (if ys.length + xs.length ≤ 100000 then _ else _) Q E; rw [if_pos hl]; exact q
theorem w_pop (h : wE fo env (fun u e1 => wr (match u with
  | .cv i => (ownL e1[i]?).bind fun o => (o.2[o.2.length - 1]?).map fun x => .ok (.d x) (e1.set i (.own o.1 (.lst o.2.dropLast)))
  | _ => none) Q E) E) : wE (popE fo) env Q E := wr_bind h
theorem w_pop1 {t : Bool} (h : env[i]? = some (.own t (.lst ys))) (h2 : ys[ys.length - 1]? = some x) (h4 : env.set i (.own t (.lst ys.dropLast)) = env2) (q : Q (.d x) env2) : wr (match RV.cv i with
  | .cv i => (ownL env[i]?).bind fun o => (o.2[o.2.length - 1]?).map fun x => .ok (.d x) (env.set i (.own o.1 (.lst o.2.dropLast)))
  | _ => none) Q E := by
  subst h4
  dsimp only; rw [h]; show wr ((ys[ys.length - 1]?).map _) Q E; rw [h2]; exact q
/-- slices -/
theorem w_sl {fl fh : Option SE} (h : wE fe env (fun u e1 => wr (bindO fl e1 fun lo env2 => bindO fh env2 fun hi env3 => (pk u env3).bind fun x => (cutD x lo hi).map (Re.ok · env3)) Q E) E) : wE (sliceE fe fl fh) env Q E := wr_bind h
theorem w_bo0 {k : Option Int → SE} (h : wr (k none env) Q E) : wr (bindO none env k) Q E := h
def wbo (a : RV) (env : Sl) (k : Option Int → SE) (Q : QE) (E : QX) : Prop := wr (match pk a env with
    | some (.int i) => k (some i) env
    | _ => none) Q E
theorem w_bo1 {k : Option Int → SE} (h : wE fa env (fun u e1 => wbo u e1 k Q E) E) : wr (bindO (some fa) env k) Q E := wr_bind h
theorem w_bo2 {k : Option Int → SE} {n : Int} (hx : pk a env = some (.int n)) (h : wr (k (some n) env) Q E) : wbo a env k Q E := by unfold wbo; rw [hx]; exact h
theorem w_sl1 {lo hi : Option Int} (hx : pk a env = some x) (hz : cutD x lo hi = some z) (q : Q z env) : wr ((pk a env).bind fun x => (cutD x lo hi).map (Re.ok · env)) Q E := by
  rw [hx, Option.bind_some, hz]; exact q
/-- comprehensions -/
theorem w_comp {vs : List Nat} {fi : SI} {tg : Tg} {ft : Option SE} (h : wI fi env (fun xs e1 => wr ((compD vs tg ft fe xs [] (clr vs e1)).map fun p => .ok (.own (.lst p.1)) (rst vs e1 p.2)) Q E) E) : wE (compE vs fi tg ft fe) env Q E := by
  show wr (compE vs fi tg ft fe env) Q E
  unfold compE
  unfold wI at h
  cases hf : fi env with
  | none => rw [hf] at h; exact h.elim
  | some r => rw [hf] at h; cases r with
    | ok xs e => exact h
    | ex x e => exact h
theorem w_comp1 {vs : List Nat} {tg : Tg} {ft : Option SE} (h : compD vs tg ft fe xs [] (clr vs env) = some (ys, env1)) (he : rst vs env env1 = env2) (q : Q (.own (.lst ys)) env2) : wr ((compD vs tg ft fe xs [] (clr vs env)).map fun p => .ok (.own (.lst p.1)) (rst vs env p.2)) Q E := by
  subst he; rw [h]; exact q
theorem w_all {pb : Nat → Bool} (h : wE fe env (fun u e1 => wr (match pk u e1 with
  | some (.str s) => some (.ok (.d (.bl (s.all pb))) e1)
  | _ => none) Q E) E) : wE (allE fe pb) env Q E := wr_bind h
theorem w_all1 {pb : Nat → Bool} {s : List Nat} (hx : pk a env = some (.str s)) (q : Q (.d (.bl (s.all pb))) env) : wr (match pk a env with
  | some (.str s) => some (.ok (.d (.bl (s.all pb))) env)
  | _ => none) Q E := by rw [hx]; exact q
theorem w_bet {i j : Int} (h : wE fe env (fun u e1 => wr (match pk u e1 with
  | some (.int n) => some (.ok (.d (.bl (decide (i ≤ n) && decide (n ≤ j)))) e1)
  | _ => none) Q E) E) : wE (betE i fe j) env Q E := wr_bind h
theorem w_bet1 {i j n : Int} (hx : pk a env = some (.int n)) (q : Q (.d (.bl (decide (i ≤ n) && decide (n ≤ j)))) env) : wr (match pk a env with
  | some (.int n) => some (.ok (.d (.bl (decide (i ≤ n) && decide (n ≤ j)))) env)
  | _ => none) Q E := by rw [hx]; exact q
theorem w_rev (h : wE fe env (fun u e1 => wr (match pk u e1 with
  | some (.lst xs) => some (.ok (.own (.lst xs.reverse)) e1)
  | _ => none) Q E) E) : wE (revE fe) env Q E := wr_bind h
theorem w_rev1 (hx : pk a env = some (.lst xs)) (q : Q (.own (.lst xs.reverse)) env) : wr (match pk a env with
  | some (.lst xs) => some (.ok (.own (.lst xs.reverse)) env)
  | _ => none) Q E := by rw [hx]; exact q
theorem w_rg {g : List D → RV} (h : wE fa env (fun u e1 => wr (match pk u e1 with
  | some (.int n) => if okP (-(2 ^ 62) ≤ n ∧ n < 2 ^ 62 ∧ n.toNat ≤ 100000) then some (.ok (g ((List.range n.toNat).map fun i => .int (i : Nat))) e1) else none
  | _ => none) Q E) E) : wE (rgD g fa) env Q E := wr_bind h
/-- the exception in hand -/
theorem w_xf {f : Str} {e : Xn} (h : env[i]? = some (.xn e)) (h2 : e.fs.lookup f = some x) (q : Q (.d x) env) : wE (xfE i f) env Q E := by
  show wr (xfE i f env) Q E
  unfold xfE; rw [h]; dsimp only; rw [h2]; exact q
theorem w_isx {cl : List Str} {e : Xn} (h : env[i]? = some (.xn e)) (q : Q (.d (.bl (decide (e.cls ∈ cl)))) env) : wE (isxE i cl) env Q E := by
  show wr (isxE i cl env) Q E
  unfold isxE; rw [h]; exact q
theorem look_place {x : Str} {d : D} : List.lookup ("place" : Str) (xnOf x d).fs = some d := rfl
theorem look_word {x : Str} {d : D} : List.lookup ("word" : Str) (xnOf x d).fs = some (D.str x.cps.toList) := rfl
/-- a <= b <= c -/
theorem w_chain {g' : D → D → Option RV} (h : wE fa env (fun u e1 => wE fb e1 (fun v e2 => wr ((pk u e2).bind fun x => (pk v e2).bind fun y => match g x y with
    | some (.d (.bl true)) => bindE (fc e2) fun c env3 => (pk v env3).bind fun y' => (pk c env3).bind fun z => (g' y' z).map (Re.ok · env3)
    | some (.d (.bl false)) => some (.ok (.d (.bl false)) e2)
    | _ => none) Q E) E) E) : wE (chainE g g' fa fb fc) env Q E := wr_bind (wr_mono h (fun _ _ h => wr_bind h) fun _ _ h => h)
theorem w_chain1 {g' : D → D → Option RV} {t : Bool} (hx : pk a env = some x) (hy : pk b env = some y) (hg : g x y = some (.d (.bl t)))
    (hT : t = true → wE fc env (fun c e3 => wr (op2 g' b c e3) Q E) E) (hF : t = false → Q (.d (.bl false)) env) :
    wr ((pk a env).bind fun x => (pk b env).bind fun y => match g x y with
    | some (.d (.bl true)) => bindE (fc env) fun c env3 => (pk b env3).bind fun y' => (pk c env3).bind fun z => (g' y' z).map (Re.ok · env3)
    | some (.d (.bl false)) => some (.ok (.d (.bl false)) env)
    | _ => none) Q E := by
  rw [hx, Option.bind_some, hy, Option.bind_some, hg]
  cases t with
  | true => exact wr_bind (hT rfl)
  | false => exact hF rfl
theorem w_src (h : wE fe env (fun u e1 => wri ((frz u e1).bind fun p => (itemsD p.1).map fun xs => .ok xs p.2) QI E) E) : wI (srcE fe) env QI E := wri_bind h
theorem w_src1 (h : frz a env = some (x, env1)) (h2 : itemsD x = some xs) (q : QI xs env1) : wri ((frz a env).bind fun p => (itemsD p.1).map fun xs => .ok xs p.2) QI E := by
  rw [h, Option.bind_some]; dsimp only; rw [h2]; exact q
theorem w_args {g : List D → Option (List D)} (h : wA fs env (fun as e1 => wri ((pks as e1).bind fun xs => (g xs).map fun ys => .ok ys e1) QI E) E) : wI (argsI g fs) env QI E := wri_bindA h
theorem w_args1 {g : List D → Option (List D)} (h : pks as env = some xs) (h2 : g xs = some ys) (q : QI ys env) : wri ((pks as env).bind fun xs => (g xs).map fun ys => .ok ys env) QI E := by
  rw [h, Option.bind_some, h2]; exact q
theorem w_enum (h : wA fs env (fun as e1 => wri (match as with
  | [a] => (frz a e1).bind fun p => (match p.1 with | .lst xs => some (enumL 0 xs) | .str x => some (enumL 0 (x.map fun c => .str [c])) | _ => none).map fun ys => .ok ys p.2
  | _ => none) QI E) E) : wI (enumE fs) env QI E := wri_bindA h
theorem w_enum1 (h : frz a env = some (.lst xs, env1)) (q : QI (enumL 0 xs) env1) : wri (match [a] with
  | [a] => (frz a env).bind fun p => (match p.1 with | .lst xs => some (enumL 0 xs) | .str x => some (enumL 0 (x.map fun c => .str [c])) | _ => none).map fun ys => .ok ys p.2
  | _ => none) QI E := by dsimp only; rw [h]; exact q
theorem w_enum2 {s : List Nat} (h : frz a env = some (.str s, env1)) (q : QI (enumL 0 (s.map fun c => .str [c])) env1) : wri (match [a] with
  | [a] => (frz a env).bind fun p => (match p.1 with | .lst xs => some (enumL 0 xs) | .str x => some (enumL 0 (x.map fun c => .str [c])) | _ => none).map fun ys => .ok ys p.2
  | _ => none) QI E := by dsimp only; rw [h]; exact q
theorem w_zip (h : wA fs env (fun as e1 => wri ((frzs as e1).bind fun p => match p.1 with
  | [x, y] => (seqZ x).bind fun a => (seqZ y).map fun b => .ok (zipL a.2 b.2) p.2
  | _ => none) QI E) E) : wI (zipE fs) env QI E := wri_bindA h
theorem w_zip1 {t u : Bool} (h : frzs as env = some ([x, y], env1)) (h1 : seqZ x = some (t, xs)) (h2 : seqZ y = some (u, ys)) (q : QI (zipL xs ys) env1) : wri ((frzs as env).bind fun p => match p.1 with
  | [x, y] => (seqZ x).bind fun a => (seqZ y).map fun b => .ok (zipL a.2 b.2) p.2
  | _ => none) QI E := by rw [h, Option.bind_some]; dsimp only; rw [h1, Option.bind_some, h2]; exact q
end
section
variable {env env1 env2 : Sl} {f g : SS} {fe fc : SE} {a : RV} {x : D} {i : Nat} {tg : Tg} {body : SS} {fi : SI} {xs ys : List D} {fa : SA} {as : List RV} {N : Sl → Prop} {k : Ks} {R : QE} {B Ct : Sl → Prop} {E : QX}
theorem wrs_mono {r : Option Out} {N' : Sl → Prop} {k' : Ks} (h : wrs r N k) (hn : ∀ e, N e → N' e) (hr : ∀ a e, k.rt a e → k'.rt a e) (hb : ∀ e, k.bk e → k'.bk e) (hc : ∀ e, k.ct e → k'.ct e) (he : ∀ x e, k.ex x e → k'.ex x e) : wrs r N' k' := by
  cases r with
  | none => exact h.elim
  | some r => cases r with
    | nx e => exact hn _ h
    | rt a e => exact hr _ _ h
    | bk e => exact hb _ h
    | ct e => exact hc _ h
    | ex x e => exact he _ _ h
theorem w_seq (h : wS f env (fun e => wS g e N k) k) : wS (seqS f g) env N k := by
  unfold wS at h ⊢
  unfold seqS
  cases hf : f env with
  | none => rw [hf] at h; exact h.elim
  | some r => rw [hf] at h; cases r <;> exact h
/-- the second knows of the first what P says -/
theorem w_seqP (P : Sl → Prop) (h1 : wS f env P k) (h2 : ∀ e, P e → wS g e N k) : wS (seqS f g) env N k := w_seq (wrs_mono h1 h2 (fun _ _ h => h) (fun _ h => h) (fun _ h => h) fun _ _ h => h)
theorem w_skip (q : N env) : wS skipS env N k := q
def wSt (i : Nat) (a : RV) (env : Sl) (N : Sl → Prop) : Prop := ∃ e, storeR i a env = some e ∧ N e
theorem w_st (h : storeR i a env = some env1) (q : N env1) : wSt i a env N := ⟨_, h, q⟩
theorem w_asg (h : wE fe env (fun u e1 => wSt i u e1 N) E) : wS (asgS i fe) env N ⟨R, B, Ct, E⟩ := wrs_bind (wr_mono h (fun u e1 h => by
  obtain ⟨e, h1, h2⟩ := h
  rw [h1]; exact h2) fun _ _ h => h)
def wTu (tg : Tg) (a : RV) (env : Sl) (N : Sl → Prop) : Prop := ∃ x e1 e2, frz a env = some (x, e1) ∧ putT tg x e1 = some e2 ∧ N e2
theorem w_tu (h : frz a env = some (x, env1)) (h2 : putT tg x env1 = some env2) (q : N env2) : wTu tg a env N := ⟨_, _, _, h, h2, q⟩
theorem w_asgT (h : wE fe env (fun u e1 => wTu tg u e1 N) E) : wS (asgT tg fe) env N ⟨R, B, Ct, E⟩ := wrs_bind (wr_mono h (fun u e1 h => by
  obtain ⟨x, e2, e3, h1, h2, h3⟩ := h
  rw [h1, Option.bind_some]
  dsimp only
  rw [h2]
  exact h3) fun _ _ h => h)
theorem w_seqP2 {f2 : SS} (P : Sl → Prop) (h1 : wS f env (fun e => wS f2 e P k) k) (h2 : ∀ e, P e → wS g e N k) : wS (seqS f (seqS f2 g)) env N k := w_seqP _ h1 fun _ h => w_seqP P h h2
theorem w_expr (h : wE fe env (fun _ e1 => N e1) E) : wS (exprS fe) env N ⟨R, B, Ct, E⟩ := wrs_bind h
theorem w_ret (h : wE fe env R E) : wS (retS fe) env N ⟨R, B, Ct, E⟩ := wrs_bind h
theorem w_retN (h : R (.d .non) env) : wS retNS env N ⟨R, B, Ct, E⟩ := h
theorem w_brk (h : B env) : wS breakS env N ⟨R, B, Ct, E⟩ := h
theorem w_cnt (h : Ct env) : wS contS env N ⟨R, B, Ct, E⟩ := h
theorem w_ite (h : wE fc env (fun u e1 => wB u e1 (wS f e1 N ⟨R, B, Ct, E⟩) (wS g e1 N ⟨R, B, Ct, E⟩)) E) : wS (iteS fc f g) env N ⟨R, B, Ct, E⟩ := wrs_bind (wr_mono h (fun u e1 h => by
    obtain ⟨t, h1, h2, h3⟩ := h
    rw [h1]
    cases t with
    | true => exact h2 rfl
    | false => exact h3 rfl) fun _ _ h => h)
theorem w_for (h : wI fi env (fun xs e1 => wS (loopD tg body xs) e1 N ⟨R, B, Ct, E⟩) E) : wS (forS fi tg body) env N ⟨R, B, Ct, E⟩ := by
  unfold wS forS
  unfold wI at h
  cases hf : fi env with
  | none => rw [hf] at h; exact h.elim
  | some r => rw [hf] at h; cases r with
    | ok xs e => exact h
    | ex x e => exact h
/-- a walk: what holds behind the part that is done -/
theorem w_loop (I : List D → Sl → Prop) (h0 : I [] env) (hs : ∀ pre x suf e, xs = pre ++ x :: suf → I pre e → ∃ e1, putT tg x e = some e1 ∧ wS body e1 (I (pre ++ [x])) ⟨R, N, I (pre ++ [x]), E⟩) (hn : ∀ e, I xs e → N e) : wS (loopD tg body xs) env N ⟨R, B, Ct, E⟩ := by
  have go : ∀ suf pre e, xs = pre ++ suf → I pre e → wS (loopD tg body suf) e N ⟨R, B, Ct, E⟩ := by
    intro suf
    induction suf with
    | nil => intro pre e h1 h2; rw [List.append_nil] at h1; subst h1; exact hn e h2
    | cons x suf ih =>
      intro pre e h1 h2
      obtain ⟨e1, g1, g2⟩ := hs pre x suf e h1 h2
      unfold wS at g2 ⊢
      rw [loopD, g1, Option.bind_some]
      have ih' := fun e => ih (pre ++ [x]) e (by rw [h1, List.append_assoc]; rfl)
      cases hb : body e1 with
      | none => rw [hb] at g2; exact g2.elim
      | some r => rw [hb] at g2; cases r with
        | nx e => exact ih' e g2
        | rt a e => exact g2
        | bk e => exact g2
        | ct e => exact ih' e g2
        | ex x e => exact g2
  exact go xs [] env rfl h0
/-- the same over things of any kind -/
theorem w_loopM {α : Type} {d : α → D} {l : List α} (I : List α → Sl → Prop) (h0 : I [] env) (hs : ∀ pre x suf e, l = pre ++ x :: suf → I pre e → ∃ e1, putT tg (d x) e = some e1 ∧ wS body e1 (I (pre ++ [x])) ⟨R, N, I (pre ++ [x]), E⟩) (hn : ∀ e, I l e → N e) : wS (loopD tg body (l.map d)) env N ⟨R, B, Ct, E⟩ := by
  have go : ∀ suf pre e, l = pre ++ suf → I pre e → wS (loopD tg body (suf.map d)) e N ⟨R, B, Ct, E⟩ := by
    intro suf
    induction suf with
    | nil => intro pre e h1 h2; rw [List.append_nil] at h1; subst h1; exact hn e h2
    | cons x suf ih =>
      intro pre e h1 h2
      obtain ⟨e1, g1, g2⟩ := hs pre x suf e h1 h2
      unfold wS at g2 ⊢
      rw [List.map_cons, loopD, g1, Option.bind_some]
      have ih' := fun e => ih (pre ++ [x]) e (by rw [h1, List.append_assoc]; rfl)
      cases hb : body e1 with
      | none => rw [hb] at g2; exact g2.elim
      | some r => rw [hb] at g2; cases r with
        | nx e => exact ih' e g2
        | rt a e => exact g2
        | bk e => exact g2
        | ct e => exact ih' e g2
        | ex x e => exact g2
  exact go l [] env rfl h0
/-- over range(n) -/
theorem w_loopR {n : Nat} (I : Nat → Sl → Prop) (h0 : I 0 env) (hs : ∀ k e, k < n → I k e → ∃ e1, putT tg (.int k) e = some e1 ∧ wS body e1 (I (k + 1)) ⟨R, N, I (k + 1), E⟩) (hn : ∀ e, I n e → N e) : wS (loopD tg body ((List.range n).map fun i => .int (i : Nat))) env N ⟨R, B, Ct, E⟩ :=
  w_loopM (fun pre e => I pre.length e) h0 (fun pre x suf e h hi => by
    have hx : x = pre.length := by
      have h1 : (List.range n)[pre.length]? = some x := by rw [h, List.getElem?_append_right (Nat.le_refl _), Nat.sub_self]; rfl
      have h2 : pre.length < n := by
        have := congrArg List.length h
        rw [List.length_range, List.length_append, List.length_cons] at this
        omega
      rw [List.getElem?_range h2] at h1
      exact (Option.some.inj h1).symm
    have h2 : pre.length < n := by
        have := congrArg List.length h
        rw [List.length_range, List.length_append, List.length_cons] at this
        omega
    subst hx
    obtain ⟨e1, g1, g2⟩ := hs pre.length e h2 hi
    rw [List.length_append, List.length_singleton]
    exact ⟨e1, g1, g2⟩) (fun e h => hn e (by rw [List.length_range] at h; exact h))
/-- over any list, by the place -/
theorem w_loopI (I : Nat → Sl → Prop) (h0 : I 0 env) (hs : ∀ k x e, xs[k]? = some x → I k e → ∃ e1, putT tg x e = some e1 ∧ wS body e1 (I (k + 1)) ⟨R, N, I (k + 1), E⟩) (hn : ∀ e, I xs.length e → N e) : wS (loopD tg body xs) env N ⟨R, B, Ct, E⟩ :=
  w_loop (fun pre e => I pre.length e) h0 (fun pre x suf e h hi => by
    obtain ⟨e1, g1, g2⟩ := hs pre.length x e (by rw [h, List.getElem?_append_right (Nat.le_refl _), Nat.sub_self]; rfl) hi
    rw [List.length_append, List.length_singleton]
    exact ⟨e1, g1, g2⟩) hn
theorem wE_get {f : SE} {e : Sl} {Q : QE} (h : wE f e Q nE) : ∃ a e1, f e = some (.ok a e1) ∧ Q a e1 := by
  unfold wE at h
  cases hf : f e with
  | none => rw [hf] at h; exact h.elim
  | some r => rw [hf] at h; cases r with
    | ok a e1 => exact ⟨a, e1, rfl, h⟩
    | ex x e1 => exact h.elim
theorem w_compM {α : Type} {d g : α → D} {l : List α} {vs : List Nat} {e0 : Sl} (hl : l.length ≤ 100000) (h : ∀ x ∈ l, ∃ e1, putT tg (d x) e0 = some e1 ∧ wE fe e1 (fun u e2 => ∃ e3, frz u e2 = some (g x, e3) ∧ clr vs e3 = e0) nE) : compD vs tg none fe (l.map d) [] e0 = some (l.map g, e0) := by
  have go : ∀ (l : List α) (acc : List D), (∀ x ∈ l, ∃ e1, putT tg (d x) e0 = some e1 ∧ wE fe e1 (fun u e2 => ∃ e3, frz u e2 = some (g x, e3) ∧ clr vs e3 = e0) nE) → acc.length + l.length ≤ 100000 → compD vs tg none fe (l.map d) acc e0 = some (acc ++ l.map g, e0) := by
    intro l
    induction l with
    | nil => intro acc _ _; rw [List.map_nil, List.map_nil, List.append_nil]; rfl
    | cons x l ih =>
      intro acc h hl
      obtain ⟨e1, h1, h2⟩ := h x (List.mem_cons_self ..)
      obtain ⟨a, e2, h3, e3, h4, h5⟩ := wE_get h2
      rw [List.map_cons, compD, h1, Option.bind_some]
      show (eltD fe e1).bind _ = _
      unfold eltD
      rw [h3]
      dsimp only
      rw [h4, Option.bind_some, if_pos (by rw [List.length_cons] at hl; omega)]
      dsimp only
      rw [h5, ih (acc ++ [g x]) (fun y hy => h y (List.mem_cons_of_mem _ hy)) (by rw [List.length_append, List.length_singleton]; rw [List.length_cons] at hl; omega), List.append_assoc]
      rfl
  have := go l [] h (by simpa using hl)
  rwa [List.nil_append] at this
theorem w_compF {α : Type} {d g : α → D} {p : α → Bool} {l : List α} {vs : List Nat} {e0 : Sl} (hl : l.length ≤ 100000) (h : ∀ x ∈ l, ∃ e1, putT tg (d x) e0 = some e1 ∧ wE fc e1 (fun u e2 => tru u e2 = some (p x) ∧ (p x = true → wE fe e2 (fun u e2 => ∃ e3, frz u e2 = some (g x, e3) ∧ clr vs e3 = e0) nE) ∧ (p x = false → clr vs e2 = e0)) nE) : compD vs tg (some fc) fe (l.map d) [] e0 = some ((l.filter p).map g, e0) := by
  have go : ∀ (l : List α) (acc : List D), (∀ x ∈ l, ∃ e1, putT tg (d x) e0 = some e1 ∧ wE fc e1 (fun u e2 => tru u e2 = some (p x) ∧ (p x = true → wE fe e2 (fun u e2 => ∃ e3, frz u e2 = some (g x, e3) ∧ clr vs e3 = e0) nE) ∧ (p x = false → clr vs e2 = e0)) nE) → acc.length + l.length ≤ 100000 → compD vs tg (some fc) fe (l.map d) acc e0 = some (acc ++ (l.filter p).map g, e0) := by
    intro l
    induction l with
    | nil => intro acc _ _; rw [List.map_nil, List.filter_nil, List.map_nil, List.append_nil]; rfl
    | cons x l ih =>
      intro acc h hl
      obtain ⟨e1, h1, h2⟩ := h x (List.mem_cons_self ..)
      obtain ⟨a, e2, h3, h4, h5, h6⟩ := wE_get h2
      rw [List.length_cons] at hl
      rw [List.map_cons, compD, h1, Option.bind_some]
      unfold bindTD
      dsimp only
      rw [h3]
      dsimp only
      rw [h4, Option.bind_some]
      cases hp : p x with
      | true =>
        obtain ⟨a', e2', g3, e3, g4, g5⟩ := wE_get (h5 hp)
        dsimp only
        unfold eltD
        rw [g3]
        dsimp only
        rw [g4, Option.bind_some, if_pos (by omega)]
        dsimp only
        rw [g5, ih (acc ++ [g x]) (fun y hy => h y (List.mem_cons_of_mem _ hy)) (by rw [List.length_append, List.length_singleton]; omega), List.filter_cons_of_pos hp, List.append_assoc]
        rfl
      | false =>
        dsimp only
        rw [h6 hp, ih acc (fun y hy => h y (List.mem_cons_of_mem _ hy)) (by omega), List.filter_cons_of_neg (by rw [hp]; exact Bool.false_ne_true)]
  have := go l [] h (by simpa using hl)
  rwa [List.nil_append] at this
/-- while -/
theorem w_while (I : Nat → Sl → Prop) {n : Nat} (hlt : n < 100000) (h0 : I n env) (hs : ∀ n e, I n e → wE fc e (fun u e1 => wB u e1 (wS f e1 (fun e2 => ∃ n', n' < n ∧ I n' e2) ⟨R, N, fun e2 => ∃ n', n' < n ∧ I n' e2, E⟩) (N e1)) E) : wS (whileS fc f) env N ⟨R, B, Ct, E⟩ := by
  have go : ∀ m n env, n < m → I n env → wS (whileN fc f m) env N ⟨R, B, Ct, E⟩ := by
    intro m
    induction m with
    | zero => intro n env h; omega
    | succ m ih =>
      intro n env h hi
      refine wrs_bind (wr_mono (hs n env hi) (fun u e1 h1 => ?_) fun _ _ h => h)
      obtain ⟨t, g1, g2, g3⟩ := h1
      rw [g1]
      cases t with
      | false => exact g3 rfl
      | true =>
        have g4 := g2 rfl
        unfold wS at g4
        dsimp only
        cases hb : f e1 with
        | none => rw [hb] at g4; exact g4.elim
        | some r => rw [hb] at g4; cases r with
          | nx e => obtain ⟨n', q1, q2⟩ := g4; exact ih n' e (by omega) q2
          | rt a e => exact g4
          | bk e => exact g4
          | ct e => obtain ⟨n', q1, q2⟩ := g4; exact ih n' e (by omega) q2
          | ex x e => exact g4
  exact go 100000 n env hlt h0
/-- xs[i] = e -/
theorem w_setL {j : Nat} {fi : SE} (h : wE fe env (fun u e1 => ∃ d e2 t ys, frz u e1 = some (d, e2) ∧ e2[j]? = some (.own t (.lst ys)) ∧ wE fi e2 (fun v e3 => ∃ n m t' ys' e4, pk v e3 = some (.int n) ∧ e3[j]? = some (.own t' (.lst ys')) ∧ ixN ys'.length n = some m ∧ e3.set j (.own t' (.lst (ys'.set m d))) = e4 ∧ N e4) E) E) : wS (setL j fi fe) env N ⟨R, B, Ct, E⟩ := wrs_bind (wr_mono h (fun u e1 h => by
  obtain ⟨d, e2, t, ys, h1, h2, h3⟩ := h
  rw [h1, Option.bind_some]
  dsimp only
  rw [h2]
  refine wrs_bind (wr_mono h3 (fun v e3 h => ?_) fun _ _ h => h)
  obtain ⟨n, m, t', ys', e4, g1, g2, g3, rfl, g4⟩ := h
  rw [g1]
  dsimp only
  rw [g2]
  show wrs ((ixN ys'.length n).map _) N _
  rw [g3]
  exact g4) fun _ _ h => h)
/-- raise -/
theorem w_raise {c : Str} (h : wA fa env (fun as e1 => ∃ d e2, frzs as e1 = some ([d], e2) ∧ E (xnOf c d) e2) E) : wS (raiseS c fa) env N ⟨R, B, Ct, E⟩ := by
  unfold wS raiseS
  unfold wA at h
  cases hf : fa env with
  | none => rw [hf] at h; exact h.elim
  | some r => rw [hf] at h; cases r with
    | ok as e =>
      obtain ⟨d, e2, h1, h2⟩ := h
      dsimp only
      rw [h1]; exact h2
    | ex x e => exact h
theorem w_raise1 {P : D → Sl → Prop} (h : frzs as env = some ([x], env1)) (q : P x env1) : ∃ d e2, frzs as env = some ([d], e2) ∧ P d e2 := ⟨_, _, h, q⟩
theorem w_raiseN {c : Str} (h : E (xnOf c .non) env) : wS (raiseNS c) env N ⟨R, B, Ct, E⟩ := h
end
theorem w_defM {np n : Nat} {body : SS} {as : List SV} {Q : RV → List SV → Prop} {E : Xn → List SV → Prop} {env : Sl} (hl : as.length = np) (he : as ++ List.replicate n .un = env)
    (h : wS body env (fun e => ∃ o, backs as e = some o ∧ Q (.d .non) o) ⟨fun a e => ∃ a' o, resV a e = some a' ∧ backs as e = some o ∧ Q a' o, nS, nS, nE⟩) : wF (defM np n body as) Q E := by
  subst he
  unfold defM
  rw [if_pos hl]
  unfold runF
  unfold wS at h
  cases hb : body (as ++ List.replicate n .un) with
  | none => rw [hb] at h; exact h.elim
  | some r =>
    rw [hb] at h
    cases r with
    | nx e => obtain ⟨o, h1, h2⟩ := h; dsimp only; rw [h1]; exact h2
    | rt a e => obtain ⟨a', o, h0, h1, h2⟩ := h; dsimp only; rw [h0, Option.bind_some, h1]; exact h2
    | bk e => exact h.elim
    | ct e => exact h.elim
    | ex x e => exact h.elim
theorem w_out1 {as : List SV} {e : Sl} {o : List SV} {P : List SV → Prop} (h1 : backs as e = some o) (q : P o) : ∃ o, backs as e = some o ∧ P o := ⟨o, h1, q⟩
theorem w_out2 {as : List SV} {e : Sl} {o : List SV} {Q : RV → List SV → Prop} {a a' : RV} (h0 : resV a e = some a') (h1 : backs as e = some o) (q : Q a' o) : ∃ a' o, resV a e = some a' ∧ backs as e = some o ∧ Q a' o := ⟨a', o, h0, h1, q⟩
theorem res_d {x : D} {e : Sl} : resV (.d x) e = some (.d x) := rfl
theorem res_own {c : C} {e : Sl} : resV (.own c) e = some (.own c) := rfl
theorem res_cv {c : C} {e : Sl} {i : Nat} (h : e[i]? = some (.own false c)) : resV (.cv i) e = some (.own c) := by unfold resV; dsimp only; rw [h]; rfl
theorem bk_nil {e : Sl} : backs [] e = some [] := rfl
theorem bk_d {x : D} {s : SV} {as o : List SV} {e : Sl} (h : backs as e = some o) : backs (.d x :: as) (s :: e) = some (.d x :: o) := by unfold backs; rw [h]; rfl
theorem bk_own {c c' : C} {as o : List SV} {e : Sl} (h : backs as e = some o) : backs (.own true c :: as) (.own true c' :: e) = some (.own true c' :: o) := by unfold backs; rw [h]; rfl
theorem tru_int {i : Int} {e : Sl} : tru (.d (.int i)) e = some (i != 0) := rfl
theorem tru_non {e : Sl} : tru (.d .non) e = some false := rfl
theorem tru_str {x : List Nat} {e : Sl} (h : x.length ≤ sizeLine) : tru (.d (.str x)) e = some (!x.isEmpty) := by show (if x.length ≤ sizeLine then _ else _) = _; rw [if_pos h]
theorem tru_lst {x : List D} {e : Sl} : tru (.d (.lst x)) e = some (!x.isEmpty) := rfl
theorem tru_tup {x : List D} {e : Sl} : tru (.d (.tup x)) e = some (!x.isEmpty) := rfl
theorem tru_ownl {x : List D} {e : Sl} : tru (.own (.lst x)) e = some (!x.isEmpty) := rfl
theorem tru_cv {x : List D} {t : Bool} {e : Sl} {i : Nat} (h : e[i]? = some (.own t (.lst x))) : tru (.cv i) e = some (!x.isEmpty) := by unfold tru pk; dsimp only; rw [h]; rfl
theorem put_nm {i : Nat} {x : D} {e e1 : Sl} (h : freeSlot e[i]? = true) (h2 : e.set i (.d x) = e1) : putT (.nm i) x e = some e1 := by subst h2; unfold putT setSlot; (try dsimp only); rw [if_pos h]
theorem put_two {i j : Nat} {x y : D} {e e1 e2 : Sl} (h : freeSlot e[i]? = true) (h2 : e.set i (.d x) = e1) (h3 : freeSlot e1[j]? = true) (h4 : e1.set j (.d y) = e2) : putT (.two i j) (.tup [x, y]) e = some e2 := by
  subst h2; subst h4; unfold putT setSlot; (try dsimp only); rw [if_pos h, Option.bind_some, if_pos h3]
theorem put_tnil {e : Sl} : putT .nil (.tup []) e = some e := rfl
theorem put_tcons {g gs : Tg} {x : D} {xs : List D} {e e1 e2 : Sl} (c : gs.isT = true) (h : putT g x e = some e1) (h2 : putT gs (.tup xs) e1 = some e2) : putT (.cons g gs) (.tup (x :: xs)) e = some e2 := by
  unfold putT
  rw [if_pos c, h, Option.bind_some, h2]
theorem fs_at {env : Sl} {i : Nat} {s : SV} (h : env[i]? = some s) (h2 : freeSlot (some s) = true) : freeSlot env[i]? = true := by rw [h]; exact h2
def wSet (i : Nat) (s : SV) (env : Sl) (P : Sl → Prop) : Prop := P (env.set i s)
theorem w_set {i : Nat} {s : SV} {env e : Sl} {P : Sl → Prop} (h : env.set i s = e) (q : P e) : wSet i s env P := by subst h; exact q
theorem setg_z {α : Type} {s t : α} {l : List α} : (s :: l).set 0 t = t :: l := rfl
theorem setg_s {α : Type} {s t : α} {l l' : List α} {n : Nat} (h : l.set n t = l') : (s :: l).set (n + 1) t = s :: l' := by subst h; rfl
theorem rp_z : ([] : List SV) ++ List.replicate 0 SV.un = [] := rfl
theorem rp_c {x : SV} {as l : List SV} {n : Nat} (h : as ++ List.replicate n SV.un = l) : (x :: as) ++ List.replicate n SV.un = x :: l := by subst h; rfl
theorem rp_s {l : List SV} {n : Nat} (h : ([] : List SV) ++ List.replicate n SV.un = l) : ([] : List SV) ++ List.replicate (n + 1) SV.un = .un :: l := by subst h; rfl
theorem cut_tup {xs : List D} {lo hi : Option Int} : cutD (.tup xs) lo hi = some (.d (.tup (cutL xs lo hi))) := rfl
theorem cut_lst {xs : List D} {lo hi : Option Int} : cutD (.lst xs) lo hi = some (.own (.lst (cutL xs lo hi))) := rfl
theorem add_lst {xs ys : List D} (h : xs.length + ys.length ≤ 1000) : addD (.lst xs) (.lst ys) = some (.own (.lst (xs ++ ys))) := if_pos (Nat.le_trans h (by decide))
theorem w_n1 {P : Prop} (h : P) : (!true) = false → P := fun _ => h
theorem w_n2 {P : Prop} : (!true) = true → P := fun h => by cases h
theorem w_n3 {P : Prop} (h : P) : (!false) = true → P := fun _ => h
theorem w_n4 {P : Prop} : (!false) = false → P := fun h => by cases h
theorem w_hT {t : Bool} {P : Prop} (h : t = true) (q : P) : t = true → P := fun _ => q
theorem w_hF {t : Bool} {P : Prop} (h : t = false) : t = true → P := fun g => by rw [h] at g; cases g
theorem w_gT {t : Bool} {P : Prop} (h : t = false) (q : P) : t = false → P := fun _ => q
theorem w_gF {t : Bool} {P : Prop} (h : t = true) : t = false → P := fun g => by rw [h] at g; cases g
theorem w_tt {P : Prop} (h : P) : true = true → P := fun _ => h
theorem w_ff {P : Prop} (h : P) : false = false → P := fun _ => h
theorem w_tf {P : Prop} : true = false → P := fun h => by cases h
theorem w_ft {P : Prop} : false = true → P := fun h => by cases h
end
end Dw
namespace Dw
noncomputable section
open PySem PySem.Spec PyProof.Rows L2
section
variable {α : Type} [DecidableEq α]
def ddS (σ : List α) (v : α) : List α := if v ∈ σ then σ else σ ++ [v]
def dd (xs : List α) : List α := xs.foldl ddS []
end
def setLenD : D → Option Nat
  | .lst xs => (txts xs).bind fun ys => if ys.length ≤ 1000 then some (dd ys).length else none
  | .tup xs => (txts xs).bind fun ys => if ys.length ≤ 1000 then some (dd ys).length else none
  | _ => none
def lenSetE (fe : SE) : SE := fun env => bindE (fe env) fun a env1 => ((pk a env1).bind setLenD).map fun n => Re.ok (.d (.int (n : Nat))) env1
section
variable [Glo] [Tabs] {fe : SE} {env : Sl} {a : RV} {x : D} {n : Nat} {Q : QE} {E : QX}
theorem w_lenSet (h : wE fe env (fun u e1 => wr (((pk u e1).bind setLenD).map fun n => Re.ok (.d (.int (n : Nat))) e1) Q E) E) : wE (lenSetE fe) env Q E := wr_bind h
theorem w_lenSet1 (hx : pk a env = some x) (h : setLenD x = some n) (q : Q (.d (.int (n : Nat))) env) : wr (((pk a env).bind setLenD).map fun n => Re.ok (.d (.int (n : Nat))) env) Q E := by rw [hx, Option.bind_some, h]; exact q
end
end
end Dw
namespace Dw
end Dw
namespace Dw
noncomputable section
open PySem PySem.Spec PyProof.Rows L2
variable [Glo] [Tabs]
def rInU (K : PySem.W.Frag) (g : Bool → Bool) : R2 := fun x y H Q => ∃ d ds, Dp K H x d ∧ Dp K H y (.tuple ds) ∧ SeqAt.shaped d = true ∧ SeqAt.shaped (.tuple ds) = true ∧ Q (.bl (g (ds.any fun z => PyData.eqv z d))) H
section
variable {X : Cx}
theorem op_inU (hu : X.A.units + 65 < cLine) : OpR X (compareOp .In) (rInU X.K id) := by
  rintro pins s σ H x y v u Q I rx ry ⟨d, ds, hd, he, sd, se, q⟩
  obtain ⟨as, r1⟩ := Dp.reads I d x v hd rx
  obtain ⟨bs, r2⟩ := Dp.reads I (.tuple ds) y u he ry
  exact SeqAt.in_tuple_reads r2 r1 (SeqAt.canLay_of_shaped se) (SeqAt.canLay_of_shaped sd) (room_in_shaped sd hu) ⟨.bl _, H, I, rfl, q⟩
theorem op_notInU (hu : X.A.units + 65 < cLine) : OpR X (compareOp .NotIn) (rInU X.K not) := by
  rintro pins s σ H x y v u Q I rx ry ⟨d, ds, hd, he, sd, se, q⟩
  obtain ⟨as, r1⟩ := Dp.reads I d x v hd rx
  obtain ⟨bs, r2⟩ := Dp.reads I (.tuple ds) y u he ry
  exact SeqAt.notIn_tuple_reads r2 r1 (SeqAt.canLay_of_shaped se) (SeqAt.canLay_of_shaped sd) (room_in_shaped sd hu) ⟨.bl _, H, I, rfl, q⟩
end
def inG (x y : D) : Option RV := match y with
  | .tup ys => if (flatD x && ys.all flatD) || (shp x && shp (.tup ys)) then some (.d (.bl (inB x ys))) else none
  | y => inD x y
def notInG (x y : D) : Option RV := match inG x y with
  | some (.d (.bl b)) => some (.d (.bl (!b)))
  | _ => none
theorem inG_in {x y : D} {z : RV} (h : inD x y = some z) : inG x y = some z := by
  cases y with
  | tup ys =>
    obtain ⟨c, e⟩ := some_if (show (if flatD x && ys.all flatD then some (RV.d (.bl (inB x ys))) else none) = _ from h)
    cases e
    show (if _ then _ else _) = _
    rw [c]
    rfl
  | _ => exact h
theorem notInG_of {x y : D} {b : Bool} (h : inG x y = some (.d (.bl b))) : notInG x y = some (.d (.bl (!b))) := by unfold notInG; rw [h]
/-- flat things in a tuple: as before; else data -/
theorem inG_cases {x y : D} {z : RV} (h : inG x y = some z) : inD x y = some z ∨ ∃ ys, y = .tup ys ∧ (shp x = true ∧ shp (.tup ys) = true) ∧ z = .d (.bl (inB x ys)) := by
  cases y with
  | tup ys =>
    obtain ⟨c, e⟩ := some_if (show (if (flatD x && ys.all flatD) || (shp x && shp (.tup ys)) then some (RV.d (.bl (inB x ys))) else none) = _ from h)
    cases e
    by_cases hf : (flatD x && ys.all flatD) = true
    · exact .inl (if_pos hf)
    · rw [Bool.or_eq_true] at c
      have c2 := c.resolve_left hf
      rw [Bool.and_eq_true] at c2
      exact .inr ⟨ys, rfl, c2, rfl⟩
  | _ => exact .inl h
theorem inG_bl {x y : D} {z : RV} (h : inG x y = some z) : ∃ b, z = .d (.bl b) := by
  rcases inG_cases h with h | ⟨ys, _, _, rfl⟩
  · exact inD_bl h
  · exact ⟨_, rfl⟩
theorem tup_data {K : PySem.W.Frag} {F H : Hp} {x : D} {v w : V} {ys : List D} (e : Ex F H) (hx : Vw K F H v x) (hy : Vw K F H w (.tup ys)) (h : shp x = true ∧ shp (.tup ys) = true) :
    Dp K H v (py x) ∧ Dp K H w (.tuple (pys ys)) ∧ SeqAt.shaped (py x) = true ∧ SeqAt.shaped (.tuple (pys ys)) = true ∧ ((pys ys).any fun z => PyData.eqv z (py x)) = inB x ys :=
  ⟨(hx.rel e).dp _ (shp_pl h.1), (hy.rel e).dp _ (shp_pl h.2), h.1, h.2, any_py x ys⟩
theorem snd_inG {K : PySem.W.Frag} : Snd2 K inG (rOr (rInAny K) (rInU K id)) := by
  intro W F R σ H env Q x y v w z S hx hy e p
  rcases inG_cases e with h | ⟨ys, rfl, hs, rfl⟩
  · exact .inl (snd_in S hx hy h p)
  · obtain ⟨a, b, c, d, e1⟩ := tup_data S.sub hx hy hs
    refine .inr ⟨_, _, a, b, c, d, ?_⟩
    rw [e1]
    exact post_d S p (.bl _)
theorem bl_niG {x y : D} {z : RV} (h : notInG x y = some z) : ∃ b, z = .d (.bl b) := by
  unfold notInG at h
  split at h
  · cases h; exact ⟨_, rfl⟩
  · cases h
theorem snd_niG {K : PySem.W.Frag} : Snd2 K notInG (rOr (rNiAny K) (rInU K not)) := by
  intro W F R σ H env Q x y v w z S hx hy e p
  unfold notInG at e
  cases hi : inG x y with
  | none => rw [hi] at e; cases e
  | some z' =>
    rcases inG_cases hi with h | ⟨ys, rfl, hs, rfl⟩
    · refine .inl (snd_ni S hx hy (z := z) ?_ p)
      unfold notInD
      rw [h]
      rw [hi] at e
      exact e
    · rw [hi] at e
      cases e
      obtain ⟨a, b, c, d, e1⟩ := tup_data S.sub hx hy hs
      refine .inr ⟨_, _, a, b, c, d, ?_⟩
      rw [e1]
      exact post_d S p (.bl _)
section
variable {X : Cx} {W : WX} {a b : Expr} {fa fb : SE} {pos : Pos}
theorem pd_inG (hu : X.A.units + 65 < cLine) (ha : PE X a (dE X.K W fa)) (hb : PE X b (dE X.K W fb)) (hm : behindInMarks .In b = false := by rfl) : PE X (.Compare a [.In] [b] pos) (dE X.K W (two (op2 inG) fa fb)) := pd_cmp (OpR.or (OpR.or op_in_sign (OpR.or op_in_seq (op_inD hu))) (op_inU hu)) snd_inG hm ha hb
theorem pt_inGd (hu : X.A.units + 65 < cLine) (ha : PE X a (dE X.K W fa)) (hb : PE X b (dE X.K W fb)) (hm : behindInMarks .In b = false := by rfl) : PT X (.Compare a [.In] [b] pos) (dT X.K W (two (op2 inG) fa fb)) := pt_dcmp (OpR.or (OpR.or op_in_sign (OpR.or op_in_seq (op_inD hu))) (op_inU hu)) snd_inG (fun _ _ _ => inG_bl) hm ha hb
theorem pt_notInGd (hu : X.A.units + 65 < cLine) (ha : PE X a (dE X.K W fa)) (hb : PE X b (dE X.K W fb)) (hm : behindInMarks .NotIn b = false := by rfl) : PT X (.Compare a [.NotIn] [b] pos) (dT X.K W (two (op2 notInG) fa fb)) := pt_dcmp (OpR.or (OpR.or op_notIn_sign (OpR.or op_notIn_seq (op_notInD hu))) (op_notInU hu)) snd_niG (fun _ _ _ => bl_niG) hm ha hb
end
def listG : List D → Option RV
  | [.str s] => listTC [.str s]
  | xs => listC xs
theorem snd_listG {K : PySem.W.Frag} : SndC K listG (fun xs H Q => rListC K xs H Q ∨ rListT xs H Q) := by
  intro W F R σ H env Q xs vs z S h e p
  match xs, h, e with
  | [.str s], h, e => exact .inr (snd_listT S h (xs := [.str s]) e p)
  | [], h, e => exact .inl (snd_list S h (xs := []) e p)
  | [.non], h, e => exact .inl (snd_list S h (xs := [.non]) e p)
  | [.bl b], h, e => exact .inl (snd_list S h (xs := [.bl b]) e p)
  | [.int i], h, e => exact .inl (snd_list S h (xs := [.int i]) e p)
  | [.lst y], h, e => exact .inl (snd_list S h (xs := [.lst y]) e p)
  | [.tup y], h, e => exact .inl (snd_list S h (xs := [.tup y]) e p)
  | [.dct a b], h, e => exact .inl (snd_list S h (xs := [.dct a b]) e p)
  | [.dcu a b], h, e => exact .inl (snd_list S h (xs := [.dcu a b]) e p)
  | [.ins a b c], h, e => exact .inl (snd_list S h (xs := [.ins a b c]) e p)
  | a :: b :: c, h, e => exact .inl (snd_list S h (xs := a :: b :: c) (by cases a <;> exact e) p)
theorem lg_lst {ds : List D} : listG [.lst ds] = some (.own (.lst ds)) := rfl
theorem lg_tup {ds : List D} : listG [.tup ds] = some (.own (.lst ds)) := rfl
theorem lg_str {s : List Nat} (h : s.length ≤ 100000) : listG [.str s] = some (.own (.lst (s.map fun c => .str [c]))) := if_pos h
end
end Dw
namespace Dw
noncomputable section
open PySem PySem.Spec PyProof.Rows L2
variable [Glo] [Tabs]
def starL : D → Option (List D)
  | .lst xs => some xs
  | .tup xs => some xs
  | _ => none
def starA (fa : SE) (fr : SA) : SA := fun env => bindEA (fa env) fun a env1 => match (pk a env1).bind starL with
  | some xs => mapA (fr env1) (xs.map RV.d ++ ·)
  | none => none
section
variable {env : Sl} {fa : SE} {fr : SA} {E : QX} {QA : List RV → Sl → Prop}
def wStar (a : RV) (env : Sl) (P : List D → Prop) : Prop := ∃ xs, (pk a env).bind starL = some xs ∧ P xs
theorem w_star (h : wE fa env (fun a e1 => wStar a e1 fun xs => wA fr e1 (fun as e2 => QA (xs.map RV.d ++ as) e2) E) E) : wA (starA fa fr) env QA E := wra_bind (wr_mono h (fun a e1 h => by
  obtain ⟨xs, h1, h2⟩ := h
  rw [h1]
  exact wra_map h2) fun _ _ h => h)
theorem w_star1 {a : RV} {x : D} {xs : List D} {P : List D → Prop} (h1 : pk a env = some x) (h2 : starL x = some xs) (q : P xs) : wStar a env P := ⟨xs, by rw [h1, Option.bind_some, h2], q⟩
theorem st_lst {xs : List D} : starL (.lst xs) = some xs := rfl
theorem st_tup {xs : List D} : starL (.tup xs) = some xs := rfl
theorem frzs_map {xs : List D} {as : List RV} {ys : List D} {env1 : Sl} (h : frzs as env = some (ys, env1)) : frzs (xs.map RV.d ++ as) env = some (xs ++ ys, env1) := by
  induction xs with
  | nil => exact h
  | cons x xs ih => exact frzs_cons frz_d ih
end
end
end Dw
namespace Dw
noncomputable section
open PySem PySem.Spec PyProof.Rows L2
variable [Glo] [Tabs]
def numL (i : Int) : List Nat := (PySem.Str.ofString (toString i)).cps.toList
def strC : List D → Option RV
  | [.int i] => if i.natAbs < 10 ^ 200 then some (.d (.str (numL i))) else none
  | _ => none
end
end Dw
namespace Dw
end Dw
namespace Dw
noncomputable section
open PySem PySem.Spec PyProof.Rows L2
variable [Glo] [Tabs]
/-- ys are the keys of ds -/
def Keys (m : List SV → Option FR) (ds ys : List D) : Prop := ys.length = ds.length ∧ ∀ (j : Nat) d y, ds[j]? = some d → ys[j]? = some y → m [.d d] = some (.ok (.d y) [.d d])
theorem Keys.uniq {m : List SV → Option FR} {ds ys zs : List D} (h : Keys m ds ys) (h' : Keys m ds zs) : ys = zs := by
  refine List.ext_getElem (h.1.trans h'.1.symm) fun j h1 h2 => ?_
  have h3 : j < ds.length := by rw [← h.1]; exact h1
  have a := h.2 j _ _ (List.getElem?_eq_getElem h3) (List.getElem?_eq_getElem h1)
  have b := h'.2 j _ _ (List.getElem?_eq_getElem h3) (List.getElem?_eq_getElem h2)
  rw [a] at b
  simpa using b
end
end Dw
namespace Dw
noncomputable section
open PySem PySem.Spec PyProof.Rows L2
variable [Glo] [Tabs]
def keyB : D → D → Bool
  | .int i, .int j => i == j
  | .str x, .str y => x == y
  | _, _ => false
def isK : D → Bool
  | .int _ => true
  | .str _ => true
  | _ => false
def setD : List D → List D → D → D → List D
  | k :: ks, v :: vs, x, y => (if keyB k x = true then y else v) :: setD ks vs x y
  | _, _, _, _ => []
def hasD (ks : List D) (x : D) : Bool := ks.any fun k => keyB k x
def putDk (ks : List D) (x : D) : List D := if hasD ks x = true then ks else ks ++ [x]
def putDv (ks vs : List D) (x y : D) : List D := if hasD ks x = true then setD ks vs x y else vs ++ [y]
def ownK : Option SV → Option (Bool × List D × List D)
  | some (.own b (.dct ks vs)) => some (b, ks, vs)
  | _ => none
def setK (j : Nat) (fi fe : SE) : SS := fun env => bindS (fe env) fun a env1 => (frz a env1).bind fun p => (ownK p.2[j]?).bind fun _ => bindS (fi p.2) fun b env2 => (pk b env2).bind fun k => (ownK env2[j]?).bind fun o =>
  if isK k = true ∧ o.2.1.length ≤ 1000 then some (.nx (env2.set j (.own o.1 (.dct (putDk o.2.1 k) (putDv o.2.1 o.2.2 k p.1))))) else none
def newK : SE := fun env => some (.ok (.own (.dct [] [])) env)
end
end Dw
namespace Dw
noncomputable section
open PySem PySem.Spec PyProof.Rows L2
structure FnR (P : Program) (w : World) (K : PySem.W.Frag) (mg : Str → Option Value) (base : Heap) (CX : CXT) (k : Nat) (f : Addr) (fd : FuncData) (ps : List Str) (sp : Sp) : Prop where
  len : ∀ vs H Q E, sp vs H Q E → vs.length = ps.length
  run : ∀ (A : Around) (outer : List Env) (s : Shared) (H : Hp) (args : Args) (us : List Value) (vs : List V) (Q : VK) (E : XK), A.guards = some [] → Room k A → Env0 P w K mg base A outer s H → BindsTo s fd args (ps.zip us) → Vals vs us → sp vs H Q E →
    codeAny (model P w) A (.call (.ref f) args) (CR CX outer P w H s Q E) s
section
variable {P : Program} {w : World} {K : PySem.W.Frag} {mg : Str → Option Value} {base : Heap}
theorem FnR.imp {CX : CXT} {k : Nat} {f : Addr} {fd : FuncData} {ps : List Str} {sp sp' : Sp} (F : FnR P w K mg base CX k f fd ps sp) (h : ∀ vs H Q E, sp' vs H Q E → sp vs H Q E) : FnR P w K mg base CX k f fd ps sp' :=
  ⟨fun vs H Q E q => F.len vs H Q E (h _ _ _ _ q), fun A outer s H args us vs Q E hg hr he hb hv hs => F.run A outer s H args us vs Q E hg hr he hb hv (h _ _ _ _ hs)⟩
theorem FnR.mono {CX : CXT} {j k : Nat} {f : Addr} {fd : FuncData} {ps : List Str} {sp : Sp} (F : FnR P w K mg base CX j f fd ps sp) (h : j ≤ k) : FnR P w K mg base CX k f fd ps sp :=
  ⟨F.len, fun A outer s H args us vs Q E hg hr => F.run A outer s H args us vs Q E hg (hr.mono h)⟩
end
section
variable [Glo] [Tabs]
structure DefR (P : Program) (w : World) (K : PySem.W.Frag) (mg : Str → Option Value) (base : Heap) (k : Nat) (x : Str) (np : Nat) (m : List SV → Option FR) (dfs : List D) : Prop where
  ex : ∃ (f : Addr) (fd : FuncData) (ps : List Str) (ds : List Value) (dvs : List V), FnR P w K mg base CX0 k f fd ps (spD K np m) ∧ mg x = some (.ref f) ∧ PySem.W.keepIn K (.ref f) = true ∧ Binds K fd ps ds ∧ Vals dvs ds ∧ (∀ F : Hp, RelAll K F dvs dfs) ∧ ∀ as fr, m as = some fr → as.length = np
theorem DefR.mk0 {P : Program} {w : World} {K : PySem.W.Frag} {mg : Str → Option Value} {base : Heap} {k : Nat} {x : Str} {np n : Nat} {body : SS} {f : Addr} {fd : FuncData} {ps : List Str} (F : FnR P w K mg base CX0 k f fd ps (spD K np (defM np n body))) (hm : mg x = some (.ref f)) (hk : PySem.W.keepIn K (.ref f) = true) (hb : Binds K fd ps []) : DefR P w K mg base k x np (defM np n body) [] :=
  ⟨f, fd, ps, [], [], F, hm, hk, hb, .nil, fun _ => .nil, defM_len⟩
section
variable {P : Program} {w : World} {K : PySem.W.Frag} {mg : Str → Option Value} {base : Heap} {k : Nat} {f : Addr} {fd : FuncData} {ps : List Str} {np : Nat}
theorem fnR0 : FnR P w K mg base CX0 k f fd ps (spD K np fun _ => none) where
  len := fun vs H Q E h => (spD_no h).elim
  run := fun A outer s H args us vs Q E _ _ _ _ _ h => (spD_no h).elim
theorem DefR.self {x : Str} {n k0 : Nat} {r : Nat → List SV → Option FR} {B : (List SV → Option FR) → SS} (h0 : r 0 = fun _ => none) (hs : ∀ i, r (i + 1) = defM np n (B (r i)))
    (step : ∀ (k : Nat) (m : List SV → Option FR), k0 ≤ k → DefR P w K mg base k x np m [] → FnR P w K mg base CX0 (k + 1) f fd ps (spD K np (defM np n (B m)))) (hm : mg x = some (.ref f)) (hk : PySem.W.keepIn K (.ref f) = true) (hb : Binds K fd ps []) :
    ∀ i, DefR P w K mg base (k0 + i) x np (r i) []
  | 0 => by
    rw [h0]
    exact ⟨f, fd, ps, [], [], fnR0, hm, hk, hb, .nil, fun _ => .nil, fun _ _ e => by cases e⟩
  | i + 1 => by
    have C := DefR.self h0 hs step hm hk hb i
    have F := step (k0 + i) (r i) (Nat.le_add_right _ _) C
    rw [hs]
    exact DefR.mk0 F hm hk hb
end
end
end
end Dw
namespace Dw
end Dw
namespace Dw
end Dw
namespace Dw
noncomputable section
open PySem PySem.Spec PyProof.Rows L2
variable [Glo] [Tabs]
section
variable {env : Sl} {Q R : QE} {E : QX} {N B Ct : Sl → Prop} {fe fi : SE} {j : Nat}
theorem w_newK (q : Q (.own (.dct [] [])) env) : wE newK env Q E := q
theorem w_setK (h : wE fe env (fun u e1 => ∃ d e2 t ks vs, frz u e1 = some (d, e2) ∧ e2[j]? = some (.own t (.dct ks vs)) ∧ wE fi e2 (fun v e3 => ∃ k t' ks' vs' e4, pk v e3 = some k ∧ e3[j]? = some (.own t' (.dct ks' vs')) ∧ (isK k = true ∧ ks'.length ≤ 1000) ∧
    e3.set j (.own t' (.dct (putDk ks' k) (putDv ks' vs' k d))) = e4 ∧ N e4) E) E) : wS (setK j fi fe) env N ⟨R, B, Ct, E⟩ := wrs_bind (wr_mono h (fun u e1 h => by
  obtain ⟨d, e2, t, ks, vs, h1, h2, h3⟩ := h
  rw [h1, Option.bind_some]
  dsimp only
  rw [h2]
  show wrs (bindS (fi e2) _) _ _
  exact wrs_bind (wr_mono h3 (fun v e3 h => by
    obtain ⟨k, t', ks', vs', e4, g1, g2, g3, g4, g5⟩ := h
    rw [g1, Option.bind_some, g2]
    show wrs (if isK k = true ∧ ks'.length ≤ 1000 then some (Out.nx (e3.set j (.own t' (.dct (putDk ks' k) (putDv ks' vs' k d))))) else none) _ _
    rw [if_pos g3, g4]
    exact g5) fun _ _ h => h)) fun _ _ h => h)
end
end
end Dw
namespace Dw
end Dw
namespace Dw
noncomputable section
open PySem PySem.Spec PyProof.Rows L2
variable [Glo] [Tabs]
def dispE (cs : List (List Nat × Int)) : SE := fun env => some (.ok (.own (.dct (cs.map fun c => .str c.1) (cs.map fun c => .int c.2))) env)
end
end Dw
namespace Dw
noncomputable section
open PySem PySem.Spec PyProof.Rows L2
variable [Glo] [Tabs]
section
variable {K : PySem.W.Frag} {W : WX} {F F' : Hp} {R R' : Fm} {σ : L2.St} {H H' : Hp} {env : Sl} {Q : VK}
theorem Sta.push (S : Sta K F R σ H env) {v : V} {c : C} (h : RvOk K F R σ H env v (.own c)) : Sta K F R (σ ++ [some v]) H (env ++ [.own false c]) := by
  obtain ⟨p, o, rfl, e2, e3, e4, e5, e6⟩ := h
  have at' : ∀ {i : Nat} {s : SV}, (env ++ [SV.own false c])[i]? = some s → (i < env.length ∧ env[i]? = some s ∧ (σ ++ [some (V.ref p)])[i]? = σ[i]?) ∨ (i = env.length ∧ s = .own false c ∧ (σ ++ [some (V.ref p)])[i]? = some (some (.ref p))) := fun {i s} h => by
    by_cases hi : i < env.length
    · rw [List.getElem?_append_left hi] at h
      exact .inl ⟨hi, h, List.getElem?_append_left (by rw [S.len]; exact hi)⟩
    · rw [List.getElem?_append_right (by omega)] at h
      have : i - env.length = 0 := by
        by_cases z : i - env.length = 0
        · exact z
        · rw [List.getElem?_eq_none (by simp; omega)] at h
          cases h
      rw [this] at h
      have hi2 : i = env.length := by omega
      subst hi2
      exact .inr ⟨rfl, (Option.some.inj h).symm, by rw [← S.len, List.getElem?_append_right (Nat.le_refl _), Nat.sub_self]; rfl⟩
  refine ⟨S.sub, S.fr, S.dis, by rw [List.length_append, List.length_append, S.len]; rfl, fun i x q => ?_, fun i b c' q => ?_, fun i c' q => ?_, fun i j bi ci bj cj a h1 h2 h3 h4 => ?_, fun i x q => ?_, S.tab⟩
  · rcases at' q with ⟨_, h, e⟩ | ⟨_, h, _⟩
    · rw [e]; exact S.dat i x h
    · cases h
  · rcases at' q with ⟨_, h, e⟩ | ⟨_, h, e⟩
    · rw [e]; exact S.own i b c' h
    · cases h
      exact ⟨p, o, e, e2, e3, e4, e5⟩
  · rcases at' q with ⟨_, h, e⟩ | ⟨_, h, _⟩
    · rw [e]; exact S.tag i c' h
    · cases h
  · rcases at' h1 with ⟨_, g1, k1⟩ | ⟨r1, _, k1⟩ <;> rcases at' h2 with ⟨_, g2, k2⟩ | ⟨r2, _, k2⟩
    · rw [k1] at h3
      rw [k2] at h4
      exact S.inj i j _ _ _ _ a g1 g2 h3 h4
    · rw [k1] at h3
      rw [k2] at h4
      cases h4
      exact absurd h3 (e6 i _ _ g1)
    · rw [k1] at h3
      rw [k2] at h4
      cases h3
      exact absurd h4 (e6 j _ _ g2)
    · rw [r1, r2]
  · rcases at' q with ⟨_, h, e⟩ | ⟨_, h, _⟩
    · rw [e]; exact S.xn i x h
    · cases h
end
end
end Dw
namespace Dw
noncomputable section
open PySem PySem.Spec PyProof.Rows L2
variable [Glo] [Tabs]
theorem w_dispE {cs : List (List Nat × Int)} {env : Sl} {Q : QE} {E : QX} (q : Q (.own (.dct (cs.map fun c => .str c.1) (cs.map fun c => .int c.2))) env) : wE (dispE cs) env Q E := q
section
variable {X : Cx} {W : WX} {a b : Expr} {fa fb : SE} {pos : Pos} {k : Nat}
theorem key_bl {K : PySem.W.Frag} {f : D → D → Option RV} {σ : L2.St} {H : Hp} {Q : Bool → Hp → Prop} (hf : ∀ x y z, f x y = some z → ∃ b, z = .d (.bl b)) (q : dT K W (two (op2 f) fa fb) σ H Q) : dE K W (two (op2 f) fa fb) σ H fun x H' => ∃ k, x = .bl k ∧ Q k H' := by
  obtain ⟨env, F, R, r, S, e, p⟩ := q
  refine ⟨env, F, R, r, S, e, ?_⟩
  cases r with
  | ex x env' => exact p
  | ok u env' =>
    obtain ⟨k, hk, p⟩ := p
    have isB : ∃ c, u = .d (.bl c) := by
      rcases bindE_inv e with ⟨a1, e1, _, h1⟩ | ⟨x, e1, _, h1⟩
      · rcases bindE_inv h1 with ⟨a2, e2, _, h2⟩ | ⟨x, e1, _, h2⟩
        · obtain ⟨x, y, z, _, _, h3, h4⟩ := op2_inv h2
          obtain ⟨c, rfl⟩ := hf x y z h3
          cases h4
          exact ⟨c, rfl⟩
        · cases h2
      · cases h1
    obtain ⟨c, rfl⟩ := isB
    obtain rfl : c = k := Option.some.inj hk
    intro v F' H' e1 S1 rv
    cases (show Rel K F' v (.bl c) from rv)
    exact ⟨c, rfl, p F' H' e1 S1⟩
end
theorem pk_cvK {env : Sl} {i : Nat} {t : Bool} {ks vs : List D} (h : env[i]? = some (.own t (.dct ks vs))) : pk (.cv i) env = some (.dct ks vs) := by unfold pk; dsimp only; rw [h]; rfl
theorem pk_ownK {env : Sl} {ks vs : List D} : pk (.own (.dct ks vs)) env = some (.dct ks vs) := rfl
theorem frz_ownK {env : Sl} {ks vs : List D} : frz (.own (.dct ks vs)) env = some (.dct ks vs, env) := rfl
theorem frz_cvK {env env1 : Sl} {i : Nat} {ks vs : List D} (h : env[i]? = some (.own false (.dct ks vs))) (h2 : env.set i (.d (.dct ks vs)) = env1) : frz (.cv i) env = some (.dct ks vs, env1) := by subst h2; unfold frz; dsimp only; rw [h]; rfl
end
end Dw
namespace Dw
end Dw
namespace Dw
end Dw
namespace Dw
noncomputable section
open PySem PySem.Spec PyProof.Rows L2 LamX NdefX
variable [Glo] [Tabs]
/-- the lambda's value at d, the captured things cs; frozen -/
def lamV (fe : SE) (cs : List D) (d : D) : Option D := match fe (.d d :: cs.map .d) with
  | some (.ok a e) => (frz a e).map (·.1)
  | _ => none
end
end Dw
namespace Dw
end Dw
namespace Dw
noncomputable section
open PySem PySem.Spec PyProof.Rows L2 LamX NdefX
variable [Glo] [Tabs]
def KeysL (fe : SE) (cs ds ys : List D) : Prop := ys.length = ds.length ∧ ∀ (j : Nat) d y, ds[j]? = some d → ys[j]? = some y → lamV fe cs d = some y
theorem KeysL.uniq {fe : SE} {cs ds ys zs : List D} (h : KeysL fe cs ds ys) (h' : KeysL fe cs ds zs) : ys = zs := by
  refine List.ext_getElem (h.1.trans h'.1.symm) fun j h1 h2 => ?_
  have h3 : j < ds.length := by rw [← h.1]; exact h1
  have a := h.2 j _ _ (List.getElem?_eq_getElem h3) (List.getElem?_eq_getElem h1)
  have b := h'.2 j _ _ (List.getElem?_eq_getElem h3) (List.getElem?_eq_getElem h2)
  rw [a] at b
  simpa using b
end
end Dw
namespace Dw
noncomputable section
open PySem PySem.Spec PyProof.Rows L2
theorem wipe_at : ∀ (vs : List Nat) (σ : L2.St) (k : Nat), k ∈ vs → k < σ.length → (wipe σ vs)[k]? = some none
  | i :: is, σ, k, h, hl => by
    unfold wipe
    by_cases hk : k = i
    · subst hk
      rw [List.getElem?_set_self (by rw [wipe_length]; exact hl)]
    · rw [List.getElem?_set_ne (Ne.symm hk)]
      exact wipe_at is σ k ((List.mem_cons.mp h).resolve_left hk) hl
/-- names forgotten twice -/
theorem wipe_wipe {σ : L2.St} {us vs : List Nat} (h : ∀ i ∈ us, i ∈ vs) : wipe (wipe σ us) vs = wipe σ vs := by
  apply List.ext_getElem?
  intro k
  by_cases hk : k ∈ vs
  · by_cases hl : k < σ.length
    · rw [wipe_at vs _ k hk (by rw [wipe_length]; exact hl), wipe_at vs _ k hk hl]
    · rw [List.getElem?_eq_none (by rw [wipe_length, wipe_length]; omega), List.getElem?_eq_none (by rw [wipe_length]; omega)]
  · rw [wipe_out hk, wipe_out hk, wipe_out fun z => hk (h k z)]
/-- what follows clause d's tests: the next clause, or what the innermost does; then k -/
def goOn (e : Expr) (gens : List Comprehension) (emit : Sem Unit) (acc : Value) (env : Env) (d : Nat) (k : Sem Fin) : Sem Fin :=
  match gens[d]? with
  | some g => eval g.iter env >>= fun x => standAt g.iter.pos >>= fun _ => foldedSetIterable g.iter env x >>= fun x => holding [x] (pyIter x) >>= fun it => runOwn (.compStart e d it acc env) env >>= fun _ => k
  | none => emit >>= fun _ => k
/-- the comprehension e with these clauses: a turn of clause d -/
structure CompOf (e : Expr) (gens : List Comprehension) (emit : Env → Sem Unit) (acc : Value) : Prop where
  cl : clausesOf e = gens
  quiet : ∀ d it env, (Code.compLoop e d it acc env).quiet = true
  under : ∀ A d it env, Around.under A (.compLoop e d it acc env) = A ∧ Around.under A (.compStart e d it acc env) = A
  den : ∀ P w d it env, (model P w).den (.compLoop e d it acc env) = (compTurn e d it acc env).onRaise (fun x => do noteFrame x env; theTreesLotGoes x)
  denS : ∀ P w d it env, (model P w).den (.compStart e d it acc env) = (compStart e d it acc env).onRaise (fun x => do noteFrame x env; standAt theWindowsPlace)
  turn : ∀ d it env g, gens[d]? = some g → g.is_async = 0 → (∀ g', gens[d + 1]? = some g' → g'.is_async = 0) → compTurn e d it acc env = (standAt g.iter.pos >>= fun _ => pyNext it >>= fun r => match r with
      | none => pure (.done .next)
      | some v => letOwnedTupleGo g.target it v >>= fun _ => assign g.target env v >>= fun _ => (forIn g.ifs true fun c r => if r = true then do let ok ← isTrue c env (eval c env); pure (ForInStep.yield ok) else pure (ForInStep.yield r)) >>= fun ok =>
        if ok = true then goOn e gens (emit env) acc env (d + 1) (again (.compLoop e d it acc env)) else again (.compLoop e d it acc env))
theorem compOf_dict {kx vx : Expr} {gens : List Comprehension} {scope : Scope} {pos : Pos} {D : Addr} : CompOf (.DictComp kx vx gens scope pos) gens
    (fun env => eval kx env >>= fun kv => holding [kv] (eval vx env) >>= fun vv => standAt { kx.pos with endLine := vx.pos.endLine, endCol := vx.pos.endCol } >>= fun _ => holding [kv, vv] (dictSet D kv vv)) (.ref D) := by
  refine ⟨rfl, fun _ _ _ => rfl, fun _ _ _ _ => ⟨rfl, rfl⟩, fun _ _ _ _ _ => rfl, fun _ _ _ _ _ => rfl, fun d it env g h0 ha hb => ?_⟩
  obtain ⟨t, i, ifs, z⟩ := g
  have ha : z = 0 := ha
  subst ha
  unfold compTurn goOn
  cases h1 : gens[d + 1]? with
  | none => simp only [h0, h1]; rfl
  | some g' =>
    obtain ⟨t', i', ifs', z'⟩ := g'
    have hb : z' = 0 := hb _ h1
    subst hb
    simp only [h0, h1]
    rfl
section
variable {prog : Program} {w : World} {A : Around} {R : Result → Shared → Prop} {s : Shared} {e : Expr} {gens : List Comprehension} {emit : Env → Sem Unit} {acc it : Value} {env : Env} {d : Nat} {g : Comprehension}
theorem start_any (C : CompOf e gens emit acc) (hg : gens[d]? = some g) (ha : g.is_async = 0) (h0 : codeAny (model prog w) A (.compLoop e d it acc env) R s)
    (h : wpAny (model prog w) A (pyIter it) (fun it' s' => codeAny (model prog w) A (.compLoop e d it' acc env) R s') (fun _ _ => False) s) : codeAny (model prog w) A (.compStart e d it acc env) R s := by
  refine codeAny_of_tree ?_
  rw [(C.under A d it env).2, C.denS]
  refine wpAny_notedAt ?_
  unfold compStart
  rw [C.cl, hg]
  have hz : (Option.elim (some g) false fun x => x.is_async != 0) = false := by simp [ha]
  rw [if_neg (by rw [hz]; exact Bool.false_ne_true)]
  refine wpAny_bind (wpAny_askSetting (wpAny_ite ?_))
  have h' : wpAny (model prog w) A (pyIter it) (fun it' s' => codeAny (model prog w) A (.compLoop e d it' acc env) R s') (notedBy (model prog w) A env fun x s' => R (.error x) s') s := wpAny_mono h (fun _ _ z => z) fun _ _ z => z.elim
  split
  · first
      | exact wpAny_bind (wpAny_pure (wpAny_pure ⟨C.quiet _ _ _, h0⟩))
      | exact wpAny_pure ⟨C.quiet _ _ _, h0⟩
  · refine wpAny_bind (wpAny_rule ?_)
    show wpAny _ _ (standAt g.iter.pos >>= _) _ _ s
    exact wpAny_bind (wpAny_standAt (wpAny_bind (wpAny_mono h' (fun it' s' z => wpAny_pure ⟨C.quiet _ _ _, z⟩) fun _ _ z => z)))
/-- clause d's loop: B what is to be reached behind the tests, from which the invariant comes back -/
theorem loop_any (C : CompOf e gens emit acc) (hg : gens[d]? = some g) (ha : ∀ g ∈ gens, g.is_async = 0) (I : Nat → Shared → Prop)
    (turn : ∀ n s, I n s → wpAny (model prog w) A (pyNext it) (fun r s1 => match r with
      | none => R (.ok .next) s1
      | some v => wpAny (model prog w) A (letOwnedTupleGo g.target it v) (fun _ s2 => wpAny (model prog w) A (assign g.target env v) (fun _ s3 =>
          wpAny (model prog w) A (forIn g.ifs true fun c r => if r = true then do let ok ← isTrue c env (eval c env); pure (ForInStep.yield ok) else pure (ForInStep.yield r)) (fun ok s4 =>
            if ok = true then ∀ (k : Sem Fin) Q E, (∀ s', (∃ m, m < n ∧ I m s') → wpAny (model prog w) A k Q E s') → wpAny (model prog w) A (goOn e gens (emit env) acc env (d + 1) k) Q E s4 else ∃ m, m < n ∧ I m s4) (fun _ _ => False) s3) (fun _ _ => False) s2) (fun _ _ => False) s1) (fun _ _ => False) s)
    (n : Nat) (h : I n s) : codeAny (model prog w) A (.compLoop e d it acc env) R s := by
  refine codeAny_loop (C.quiet _ _ _) I (fun n s hI => ?_) n h
  rw [(C.under A d it env).1, C.den]
  refine wpAny_noted ?_
  rw [C.turn d it env g hg (ha g (List.mem_of_getElem? hg)) fun g' h' => ha g' (List.mem_of_getElem? h')]
  have no : ∀ {E : Value → Shared → Prop} (x : Value) (s : Shared), False → E x s := fun _ _ z => z.elim
  refine wpAny_bind (wpAny_standAt (wpAny_bind (wpAny_mono (turn n s hI) (fun r s1 h1 => ?_) no)))
  cases r with
  | none => exact wpAny_pure h1
  | some v =>
    refine wpAny_bind (wpAny_mono h1 (fun _ s2 h2 => wpAny_bind (wpAny_mono h2 (fun _ s3 h3 => wpAny_bind (wpAny_mono h3 (fun ok s4 h4 => ?_) no)) no)) no)
    cases ok with
    | false => exact wpAny_pure ⟨rfl, h4⟩
    | true =>
      simp only [if_true] at h4 ⊢
      exact h4 _ _ _ fun s' hm => wpAny_pure ⟨rfl, hm⟩
end
structure Cls where
  tg : Expr
  iter : Expr
  ifs : List Expr
  wi : TI
  g : TG
  tt : TT
  vs : List Nat
def Cls.c (c : Cls) : Comprehension := ⟨c.tg, c.iter, c.ifs, 0⟩
structure Cls.In (X : Cx) (c : Cls) : Prop where
  pg : PG X c.tg c.g
  pt : PTs X c.ifs c.tt
structure Cls.On (X : Cx) (c : Cls) : Prop where
  pi : PI X c.tg c.iter c.wi
  fs : ∀ x, foldedSetIterable c.iter X.env x = pure x
  i : c.In X
abbrev TB := L2.St → Hp → (Hp → Prop) → Prop
/-- the turns over J, each with its body; N what is to hold behind the last -/
def tTurns (J : It) (g : TG) (tt : TT) (vs : List Nat) (body : TB) : TB := fun σ H1 N => ∃ W : Nat → Nat → Hp → Prop, (∃ m, W 0 m H1) ∧ ∀ i m H, W i m H →
  (J.stop i H ∧ N H) ∨ (J.go i H ∧ ∃ N1 : Hp → Prop, (∀ H', N1 H' → ∃ m', m' < m ∧ W (i + 1) m' H') ∧ ∀ x H', J.yld i H x H' → g x (wipe σ vs) H' fun σ2 H2 => wipe σ2 vs = wipe σ vs ∧ tt σ2 H2 fun b H3 => if b = true then body σ2 H3 N1 else N1 H3)
def tCls (te : TB) : List Cls → TB
  | [] => te
  | c :: cs => fun σ H N => c.wi σ H fun J H1 => tTurns J c.g c.tt c.vs (tCls te cs) σ H1 N
def vsOf : List Cls → List Nat
  | [] => []
  | c :: _ => c.vs
def Chain : List Cls → Prop
  | [] => True
  | c :: cs => (∀ i ∈ vsOf cs, i ∈ c.vs) ∧ Chain cs
def PEm (X : Cx) (emit : Sem Unit) (te : TB) : Prop := ∀ pins s σ H N, Inv X pins σ H s → te σ H N → wpAny (model X.prog X.w) X.A emit (fun _ s' => ∃ H', Inv X pins σ H' s' ∧ N H') (fun _ _ => False) s
/-- slots that know as much as before but for vs -/
def Kept (σ σ' : L2.St) (vs : List Nat) : Prop := σ'.length = σ.length ∧ ∀ (j : Nat) v, j ∉ vs → σ[j]? = some (some v) → σ'[j]? = some (some v)
/-- what follows a clause's tests, promised -/
def PGo (X : Cx) (e : Expr) (gens : List Comprehension) (emit : Env → Sem Unit) (acc : Value) (d : Nat) (body : TB) (vs : List Nat) : Prop := ∀ pins s σ H N, Inv X pins σ H s → body σ H N → ∀ (k : Sem Fin) Q E,
  (∀ s' σ' H', Inv X pins σ' H' s' → Kept σ σ' vs → N H' → wpAny (model X.prog X.w) X.A k Q E s') → wpAny (model X.prog X.w) X.A (goOn e gens (emit X.env) acc X.env d k) Q E s
section
variable {B : Cx} {e : Expr} {gens : List Comprehension} {emit : Env → Sem Unit} {acc : Value} {d : Nat}
theorem turns_any (C : CompOf e gens emit acc) (ha : ∀ g ∈ gens, g.is_async = 0) (hc : B.calm = true) (hx : B.xe = fun _ _ => False) {c : Cls} (hg : gens[d]? = some c.c) (ci : c.In B) {body : TB} {vs1 : List Nat} (hv : ∀ i ∈ vs1, i ∈ c.vs) (hb : PGo B e gens emit acc (d + 1) body vs1)
    {pins : List (Addr × Obj)} {s : Shared} {σ : L2.St} {H : Hp} {it : Addr} {fp : List Addr} {tn : Nat → Heap → Prop} {J : It} {N : Hp → Prop} (I : Inv B pins σ H s) (T : Turn B.prog B.w B.K c.tg J fp it tn) (st : tn 0 s.heap) (f : ∀ b ∈ fp, FpOk B pins H b) (h : tTurns J c.g c.tt c.vs body σ H N) :
    codeAny (model B.prog B.w) B.A (.compLoop e d (.ref it) acc B.env) (fun r s' => r = .ok .next ∧ ∃ H', Inv B pins (wipe σ c.vs) H' s' ∧ N H') s := by
  obtain ⟨W, ⟨m0, w0⟩, turn⟩ := h
  have stat : ∀ {H' : Hp}, (∀ b ∈ fp, H' b = none) → ∀ b ∈ fp, FpOk B pins H' b := fun hn b hb => ⟨hn b hb, (f b hb).2⟩
  refine loop_any C hg ha (fun n s' => ∃ i H', Inv B pins (wipe σ c.vs) H' s' ∧ tn i s'.heap ∧ (∀ b ∈ fp, H' b = none) ∧ W i n H') ?_ m0 ⟨0, H, I.weak (wipe_length _ _) (fun j v z => (wipe_some z).1), st, fun b hb => (f b hb).1, w0⟩
  rintro n s5 ⟨i, H5, I5, st5, n5, w5⟩
  rcases turn i n H5 w5 with ⟨stop, q⟩ | ⟨go, N1, hN, step⟩
  · refine thnF (T.done B rfl rfl rfl hc i pins s5 _ H5 (fun _ _ => False) I5 (stat n5) st5 stop) fun r s6 ⟨hr, I6⟩ => ?_
    subst hr
    exact ⟨rfl, H5, I6, q⟩
  · refine thnF (T.item B rfl rfl rfl hc i pins s5 _ H5 (fun _ _ => False) I5 (stat n5) st5 go) fun r s6 ⟨u, hr, h6⟩ => ?_
    subst hr
    refine thnF h6 fun _ s7 ⟨x, H7, I7, r7, y7, st7, n7⟩ => ?_
    have I7' := I7.pinned (stat n7) (T.obj _ _ st7)
    have hxe : ∀ {α : Type} {t : Sem α} {Q : α → Shared → Prop} {s : Shared}, wpAny (model B.prog B.w) B.A t Q B.xe s → wpAny (model B.prog B.w) B.A t Q (fun _ _ => False) s := fun z => by rw [hx] at z; exact z
    refine thnF (hxe (ci.pg.run _ s7 _ H7 x u _ I7' r7 (step x H7 y7))) fun _ s8 ⟨σ8, H8, I8, hw8, q8⟩ => ?_
    refine thnF (hxe (ci.pt.run _ s8 σ8 H8 _ I8 q8)) fun b s9 ⟨H9, I9, q9⟩ => ?_
    have fin : ∀ {s' : Shared} {σ' : L2.St} {H' : Hp}, Inv B (pins ++ pinsAt fp s7.heap) σ' H' s' → Kept σ8 σ' vs1 → N1 H' → ∃ m, m < n ∧ ∃ i H', Inv B pins (wipe σ c.vs) H' s' ∧ tn i s'.heap ∧ (∀ b ∈ fp, H' b = none) ∧ W i m H' := fun {s' σ' H'} I' kp nx => by
      obtain ⟨m', hm, w'⟩ := hN H' nx
      have pin' : ∀ b ∈ fp, ∀ o, s7.heap.get? b = some o → s'.heap.get? b = some o ∧ H' b = none := fun b hb o z =>
        let y := I'.pin (b, o) (List.mem_append_right _ (List.mem_append_right _ (mem_pinsAt hb z)))
        ⟨y.1, y.2.1⟩
      refine ⟨m', hm, i + 1, H', I'.unpinned.weak (by rw [kp.1, ← hw8, wipe_length]) (fun j v z => ?_), T.keep _ _ _ st7 fun b hb o z => (pin' b hb o z).1, fun b hb => ?_, w'⟩
      · rw [← hw8] at z
        obtain ⟨z1, z2⟩ := wipe_some z
        exact kp.2 j v (fun m => z2 (hv j m)) z1
      · obtain ⟨o, z, _⟩ := T.obj _ _ st7 b hb
        exact (pin' b hb o z).2
    cases b with
    | false =>
      simp only [Bool.false_eq_true, if_false] at q9 ⊢
      exact fin I9 ⟨rfl, fun _ _ _ z => z⟩ q9
    | true =>
      simp only [if_true] at q9 ⊢
      exact fun k Q E hk => hb _ s9 σ8 H9 N1 I9 q9 k Q E fun s' σ' H' I' kp nx => hk s' (fin I' kp nx)
theorem clauses_go (C : CompOf e gens emit acc) (ha : ∀ g ∈ gens, g.is_async = 0) (hc : B.calm = true) (hx : B.xe = fun _ _ => False) {te : TB} (he : PEm B (emit B.env) te) : ∀ (cs : List Cls) (d : Nat), gens.drop d = cs.map Cls.c → (∀ c ∈ cs, c.On B) → Chain cs → PGo B e gens emit acc d (tCls te cs) (vsOf cs)
  | [], d, hd, _, _ => fun pins s σ H N I h k Q E hk => by
    have hn : gens[d]? = none := by
      have : gens.length ≤ d := by simpa using hd
      exact List.getElem?_eq_none this
    unfold goOn
    rw [hn]
    exact wpAny_bind (wpAny_mono (he pins s σ H N I h) (fun _ s' ⟨H', I', nx⟩ => hk s' σ H' I' ⟨rfl, fun _ _ _ z => z⟩ nx) fun _ _ z => z.elim)
  | c :: cs, d, hd, hi, hch => fun pins s σ H N I h k Q E hk => by
    have hg : gens[d]? = some c.c := by
      have := congrArg List.head? hd
      rw [List.head?_drop] at this
      exact this
    have hd' : gens.drop (d + 1) = cs.map Cls.c := by
      have := congrArg List.tail hd
      rw [List.tail_drop] at this
      exact this
    have ih := clauses_go C ha hc hx he cs (d + 1) hd' (fun c' h' => hi c' (List.mem_cons_of_mem _ h')) hch.2
    have on := hi c List.mem_cons_self
    have hxe : ∀ {α : Type} {t : Sem α} {Q : α → Shared → Prop} {E : Value → Shared → Prop} {s : Shared}, wpAny (model B.prog B.w) B.A t Q B.xe s → wpAny (model B.prog B.w) B.A t Q E s := fun z => by rw [hx] at z; exact wpAny_mono z (fun _ _ q => q) fun _ _ q => q.elim
    unfold goOn
    rw [hg]
    refine wpAny_bind (hxe (thn (on.pi.run pins s σ H _ I h) fun xv s1 h1 => ?_))
    refine wpAny_bind (wpAny_standAt (wpAny_bind (wpAny_of_eq (on.fs xv) (wpAny_bind (wpAny_holding (hxe (thn h1 fun itv s2 h2 => ?_)))))))
    obtain ⟨it, fp, tn, J, H2, e2, I2, T, st2, f2, q2⟩ := h2
    subst e2
    refine wpAny_bind (wpAny_runOwn (h := none) ?_)
    rw [Around.mark_none]
    have lp := turns_any C ha hc hx hg on.i hch.1 ih I2 T st2 f2 q2
    refine codeAny_mono (start_any C hg rfl lp (T.self B.A 0 _ _ _ st2 lp)) fun r s' hr => ?_
    obtain ⟨rfl, H', I', nx⟩ := hr
    exact hk s' _ H' I' ⟨wipe_length _ _, fun j v hj z => by rw [show vsOf (c :: cs) = c.vs from rfl] at hj; rw [wipe_out hj]; exact z⟩ nx
end
/-- a comprehension's question: o0 what the new thing is at first -/
def tCmp (o0 : Addr → HO) (te : Addr → TB) (c0 : Cls) (cs : List Cls) : TE := fun σ H Q => c0.wi σ H fun J H1 => ∀ D, H1 D = none → tTurns J c0.g c0.tt c0.vs (tCls (te D) cs) σ (upd H1 D (o0 D)) (Q (.ref D))
/-- a new thing of this kind -/
structure NewOf (newAcc : Sem Value) (ob : Obj) (o0 : Addr → HO) : Prop where
  run : ∀ {P : Program} {w : World} {A : Around} {E : Value → Shared → Prop} {s : Shared} {Q : Value → Shared → Prop}, Q (.ref s.heap.objs.size) { s with heap := s.heap.push ob } → wpAny (model P w) A newAcc Q E s
  ok : ∀ {P : Program} {w : World} {H : Hp} {h : Heap}, sysModules < h.objs.size → ObjOk P w H (h.push ob) h.objs.size (o0 h.objs.size)
/-- in every block of this comprehension -/
def InBlk (X : Cx) (scope : Scope) (p : Cx → Prop) : Prop := ∀ (s : Shared) (H : Hp) (C : Addr) (cl : List (Str × Addr)) (fp : List Addr), p (X.blk s H scope (compEnvC scope cl C X.env) fp)
section
variable {X : Cx}
theorem comp_core {pins : List (Addr × Obj)} {s : Shared} {σ : L2.St} {H : Hp} {Q : VK} {e : Expr} {scope : Scope} {own : List (Str × Nat)} {pos' : Pos} {c0 : Cls} {cs : List Cls} {emit : Value → Env → Sem Unit} {te : Addr → TB} {newAcc : Sem Value} {ob : Obj} {o0 : Addr → HO} {use : Option (Value → Sem Unit)} {Qf : Value → Shared → Prop}
    (hc : X.calm = true) (hN : X.N.Nodup) (I : Inv X pins σ H s) (hC : ∀ D, CompOf e ((c0 :: cs).map Cls.c) (emit (.ref D)) (.ref D)) (hi : PI X c0.tg c0.iter c0.wi) (hs : ∀ x, foldedSetIterable c0.iter X.env x = pure x) (ok : BlkOk X.N X.env.scope scope own) (hv : c0.vs = own.map (·.2)) (hch : Chain (c0 :: cs))
    (h0 : InBlk X scope c0.In) (h1 : InBlk X scope fun B => ∀ c ∈ cs, c.On B) (he : InBlk X scope fun B => ∀ D, PEm B (emit (.ref D) B.env) (te D)) (hn : NewOf newAcc ob o0) (h : tCmp o0 te c0 cs σ H Q)
    (hRR : ∀ D C s' m H', Inv X pins σ H' s' → Q (.ref D) H' → s'.heap.Ns C m → FpOk X pins H' C → compPost (model X.prog X.w) X.A X.xe use Qf (.ref D) C (.ok .next) s') :
    wpAny (model X.prog X.w) X.A (comprehension e scope X.env pos' newAcc false (eval c0.iter X.env) use) Qf X.xe s := by
  have hfree : ∀ y ∈ scope.names, y.2 = .free → ∃ c, X.env.cells.lookup y.1 = some c := fun y hy z => by
    rcases ok.free y hy z with k | k
    · exact I.ok.has _ (.inl k)
    · exact I.ok.has _ (.inr k)
  refine wpAny_comprehension_free (use := use) (hC 0).cl hs (closure_ok hfree) ok.kind (fun y hy z => by rw [ok.uniq y hy, z]) (thn (hi.run pins s σ H _ I h) fun xv s1 hx => thn hx fun itv s2 h2 => ?_)
  obtain ⟨it, fp, tn, J, H2, e2, I2, T, st2, f2, q⟩ := h2
  subst e2
  refine hn.run (newEnv_comp ?_)
  have nD : H2 s2.heap.objs.size = none := I2.hok.fresh (Nat.le_refl _)
  have turns := q s2.heap.objs.size nD
  have C := hC s2.heap.objs.size
  have em := he
  generalize hD : s2.heap.objs.size = D at nD turns C
  generalize hs3 : ({ s2 with heap := s2.heap.push ob } : Shared) = s3
  have I3 : Inv X pins σ (upd H2 D (o0 D)) s3 := by
    rw [← hs3]
    refine I2.laid (t' := s2.toks) (fun b o z => Heap.get?_push_of_some _ z) (Nat.le_of_eq hD) ?_
    rw [← hD]
    exact hn.ok I2.big
  have eh : s3.heap = s2.heap.push ob := by rw [← hs3]
  have f3 : ∀ b ∈ fp, FpOk X pins (upd H2 D (o0 D)) b ∧ b < s3.heap.objs.size := fun b hb => by
    obtain ⟨o, z, _⟩ := T.obj _ _ st2 b hb
    have hl := Heap.lt_size z
    exact ⟨⟨by rw [upd_ne (by rw [← hD]; exact Nat.ne_of_lt hl)]; exact (f2 b hb).1, (f2 b hb).2⟩, by rw [eh, Heap.size_push]; exact Nat.lt_succ_of_lt hl⟩
  have st3 : tn 0 s3.heap := T.keep _ _ _ st2 fun b _ o z => by rw [eh]; exact Heap.get?_push_of_some _ z
  have I4 := block_start I3 ok hN f3
  have b0 := h0 s3 (upd H2 D (o0 D)) s3.heap.objs.size (cellsFrom (s3.heap.objs.size + 1) scope.names (cloFrom X.env.cells scope.names [])) fp
  have b1 := h1 s3 (upd H2 D (o0 D)) s3.heap.objs.size (cellsFrom (s3.heap.objs.size + 1) scope.names (cloFrom X.env.cells scope.names [])) fp
  have b2 := he s3 (upd H2 D (o0 D)) s3.heap.objs.size (cellsFrom (s3.heap.objs.size + 1) scope.names (cloFrom X.env.cells scope.names [])) fp D
  show codeAny _ _ (.compStart e 0 (.ref it) (.ref D) (compEnvC scope (cellsFrom (s3.heap.objs.size + 1) scope.names (cloFrom X.env.cells scope.names [])) s3.heap.objs.size X.env)) (compPost (model X.prog X.w) X.A X.xe use Qf (.ref D) s3.heap.objs.size) { s3 with heap := pushCells (s3.heap.push { cls := .type "dict", data := .dict #[] }) scope.names }
  generalize hce : compEnvC scope (cellsFrom (s3.heap.objs.size + 1) scope.names (cloFrom X.env.cells scope.names [])) s3.heap.objs.size X.env = ce at I4 b0 b1 b2 ⊢
  have cL : ce.locals = s3.heap.objs.size := by subst hce; rfl
  generalize hH3 : upd H2 D (o0 D) = H3 at I3 I4 b0 b1 b2 turns f3
  generalize hs4 : ({ s3 with heap := pushCells (s3.heap.push { cls := .type "dict", data := .dict #[] }) scope.names } : Shared) = s4 at I4 ⊢
  have st4 : tn 0 s4.heap := T.keep _ _ _ st3 fun b _ o z => by rw [← hs4]; exact pushCells_keeps _ _ _ _ (Heap.get?_push_of_some _ z)
  have ha : ∀ g ∈ (c0 :: cs).map Cls.c, g.is_async = 0 := fun g hg => by
    obtain ⟨c, _, rfl⟩ := List.mem_map.mp hg
    rfl
  have go := clauses_go (B := X.blk s3 H3 scope ce fp) C ha hc rfl b2 cs 1 (by simp) b1 hch.2
  have fk : ∀ b ∈ fp, FpOk (X.blk s3 H3 scope ce fp) [] H3 b := fun b hb => ⟨(f3 b hb).1.1, (I4.ok.exf b hb).1, I4.ok.exfs b hb, .inl hb, fun x c z => (I4.ok.exf b hb).2 x c z, fun p hp => absurd (show p ∈ ([] : List (Addr × Obj)) ++ [] from hp) (by simp)⟩
  have ww : wipe (wipe σ (own.map (·.2))) c0.vs = wipe σ c0.vs := by
    rw [hv]
    exact wipe_wipe fun _ h => h
  have lp := turns_any (B := X.blk s3 H3 scope ce fp) (d := 0) (σ := wipe σ (own.map (·.2))) C ha hc rfl (c := c0) rfl b0 hch.1 go I4 T st4 fk (N := Q (.ref D)) (by
    obtain ⟨W, w0, tt⟩ := turns
    refine ⟨W, w0, fun i m H w => (tt i m H w).imp id fun ⟨go, N1, hN1, st⟩ => ⟨go, N1, hN1, fun x H' y => ?_⟩⟩
    have := st x H' y
    rw [← ww] at this
    exact this)
  refine codeAny_mono (start_any C (g := c0.c) rfl rfl lp (T.self X.A 0 _ _ _ st4 lp)) fun r s6 hr => ?_
  obtain ⟨rfl, H5, I6, qq⟩ := hr
  have I7 : Inv X pins σ H5 s6 := I3.call' (ch := fp) I6.os I6.base I6.hok I6.bare fun b hb => ⟨(f3 b hb).1.2.2.2.1, (f3 b hb).1.2.1, (f3 b hb).1.2.2.2.2.1, (f3 b hb).1.2.2.2.2.2⟩
  have nC : H5 s3.heap.objs.size = none := by
    have z : H5 ce.locals = none := I6.free
    rw [cL] at z
    exact z
  obtain ⟨m, hm, _⟩ := I6.loc
  have hm : s6.heap.Ns ce.locals m := hm
  rw [cL] at hm
  exact hRR D s3.heap.objs.size s6 m H5 I7 qq hm (I3.fpOk (Nat.le_refl _) nC)
end
end
end Dw
namespace Dw
end Dw
namespace Dw
noncomputable section
open PySem PySem.Spec PyProof.Rows L2
variable [Glo] [Tabs]
structure DCl where
  fi : SI
  tg : Tg
  ft : Option SE
  vs : List Nat
abbrev EmD := Sl → C → Option (C × Sl)
def testN (ft : Option SE) (env : Sl) (k : Bool → Sl → Option (C × Sl)) : Option (C × Sl) :=
  match ft with
  | none => k true env
  | some f => match f env with
    | some (.ok a env2) => (tru a env2).bind fun b => k b env2
    | _ => none
def turnsN (c : DCl) (body : EmD) : List D → EmD
  | [], env, acc => some (acc, env)
  | x :: xs, env, acc => (putT c.tg x env).bind fun env1 => testN c.ft env1 fun b env2 => match b with
    | true => (body env2 acc).bind fun p => turnsN c body xs (clr c.vs p.2) p.1
    | false => turnsN c body xs (clr c.vs env2) acc
def clsN (em : EmD) : List DCl → EmD
  | [], env, acc => em env acc
  | c :: cs, env, acc => match c.fi env with
    | some (.ok xs env1) => turnsN c (clsN em cs) xs (clr c.vs env1) acc
    | _ => none
def cmpN (em : EmD) (a0 : C) (c0 : DCl) (cs : List DCl) : SE := fun env => match c0.fi env with
  | some (.ok xs env1) => (turnsN c0 (clsN em cs) xs (clr c0.vs env1) a0).map fun p => .ok (.own p.1) (rst c0.vs env1 p.2)
  | some (.ex e env1) => some (.ex e env1)
  | none => none
def Apart (σ : L2.St) (env : Sl) (L : Addr) : Prop := ∀ (j : Nat) b c', env[j]? = some (SV.own b c') → σ[j]? ≠ some (some (V.ref L))
structure AccAt (K : PySem.W.Frag) (F : Hp) (R : Fm) (σ : L2.St) (H : Hp) (env : Sl) (L : Addr) (acc : C) : Prop where
  o : ∃ o, H L = some o ∧ CellOk K F L o acc
  f : F L = none
  r : R.r L = none
  a : Apart σ env L
section
theorem clr_clr {env : Sl} {us vs : List Nat} (h : ∀ i ∈ us, i ∈ vs) : clr vs (clr us env) = clr vs env := by
  apply List.ext_getElem?
  intro k
  by_cases hk : k ∈ vs
  · by_cases hl : k < env.length
    · have get : ∀ e : Sl, e.length = env.length → (clr vs e)[k]? = some .un := fun e he => by
        cases q : (clr vs e)[k]? with
        | none => rw [List.getElem?_eq_none_iff, clr_len] at q; omega
        | some s => rw [clr_in vs e k s hk q]
      rw [get _ (clr_len us env), get _ rfl]
    · rw [List.getElem?_eq_none (by rw [clr_len, clr_len]; omega), List.getElem?_eq_none (by rw [clr_len]; omega)]
  · rw [clr_get vs _ k hk, clr_get vs _ k hk, clr_get us _ k fun z => hk (h k z)]
variable {K : PySem.W.Frag} {W : WX} {F F' : Hp} {R R' : Fm} {σ : L2.St} {H H' : Hp} {env env' : Sl} {L : Addr} {acc : C} {Q : VK}
theorem Apart.wipe {vs : List Nat} (h : Apart σ env L) : Apart (wipe σ vs) (clr vs env) L := fun j b c' q z => by
  by_cases hj : j ∈ vs
  · have := clr_in vs env j _ hj q
    cases this
  · rw [clr_get vs env j hj] at q
    rw [wipe_get vs σ j hj] at z
    exact h j b c' q z
/-- held, and no more -/
theorem AccAt.hold (A : AccAt K F R σ H env L acc) (S : Sta K F R σ H env) : ∃ o, CellOk K F L o acc ∧ FEx R ⟨upd R.r L o, R.t, R.T⟩ ∧ Sta K F ⟨upd R.r L o, R.t, R.T⟩ σ H env := by
  obtain ⟨o, h1, h2⟩ := A.o
  exact ⟨o, h2, ⟨Ex.new A.r, rfl⟩, S.hold A.f h1 h2.noT A.a⟩
theorem AccAt.back {o : HO} {σ' : L2.St} (hr : R.r L = none) (h : CellOk K F L o acc) (e : Ex F F') (S : Sta K F' ⟨upd R.r L o, R.t, R.T⟩ σ' H' env') : Sta K F' R σ' H' env' ∧ AccAt K F' R σ' H' env' L acc := by
  refine ⟨S.unhold ⟨Ex.new hr, rfl⟩, ⟨o, S.fr L o upd_same, h.up e⟩, S.dis L o upd_same, hr, fun j b c' q z => ?_⟩
  obtain ⟨p, u, z1, _, z3, _⟩ := S.own j b c' q
  rw [z] at z1
  cases z1
  have z3 : upd R.r L o L = none := z3
  rw [upd_same] at z3
  cases z3
/-- .. it is written -/
theorem AccAt.put {o' : HO} {acc' : C} (A : AccAt K F R σ H env L acc) (S : Sta K F R σ H env) (h : CellOk K F L o' acc') : Sta K F R σ (upd H L o') env ∧ AccAt K F R σ (upd H L o') env L acc' := by
  obtain ⟨o, hL, ho⟩ := A.o
  refine ⟨⟨fun b u q => ?_, fun b u q => ?_, S.dis, S.len, S.dat, fun j b c q => ?_, S.tag, S.inj, S.xn, fun P h => ?_⟩, ⟨o', upd_same, h⟩, A.f, A.r, A.a⟩
  · have hb : b ≠ L := fun z => by rw [z, A.f] at q; cases q
    rw [upd_ne hb]; exact S.sub b u q
  · have hb : b ≠ L := fun z => by rw [z, A.r] at q; cases q
    rw [upd_ne hb]; exact S.fr b u q
  · obtain ⟨p', u, z1, z2, z3, z4, z5⟩ := S.own j b c q
    have hb : p' ≠ L := fun z => A.a j b c q (by rw [z1, z])
    exact ⟨p', u, z1, z2, z3, by rw [upd_ne hb]; exact z4, z5⟩
  · obtain ⟨⟨ps, h1, h2⟩, h3⟩ := S.tab P h
    have hb : P ≠ L := fun z => by rw [z, hL] at h1; exact ho.noT ps (Option.some.inj h1)
    exact ⟨⟨ps, by rw [upd_ne hb]; exact h1, h2⟩, h3⟩
/-- what a body promises: mb told by tb; vs the names that it forgets -/
def BodyOk (K : PySem.W.Frag) (L : Addr) (tb : TB) (mb : EmD) (vs : List Nat) : Prop := ∀ {F : Hp} {R : Fm} {σ : L2.St} {H : Hp} {env : Sl} {acc : C} {p : C × Sl} {N : Hp → Prop}, Sta K F R σ H env → AccAt K F R σ H env L acc → mb env acc = some p →
  (∀ F' H', Ex F F' → Sta K F' R (wipe σ vs) H' (clr vs p.2) → AccAt K F' R (wipe σ vs) H' (clr vs p.2) L p.1 → N H') → tb σ H N
theorem turns_ok {c : DCl} {tb : TB} {mb : EmD} {vs1 : List Nat} (hv : c.tg.sub c.vs = true) (hs : ∀ i ∈ vs1, i ∈ c.vs) (hb : BodyOk K L tb mb vs1) {J : It} {xs : List D} {q : C × Sl} {N : Hp → Prop} (S : Sta K F R (wipe σ c.vs) H env) (A : AccAt K F R (wipe σ c.vs) H env L acc) (wk : Wk K F J xs) (e : turnsN c mb xs env acc = some q)
    (hN : ∀ F' H', Ex F F' → Sta K F' R (wipe σ c.vs) H' q.2 → AccAt K F' R (wipe σ c.vs) H' q.2 L q.1 → N H') : tTurns J (gT K c.tg) (tTD K c.ft) c.vs tb σ H N := by
  refine ⟨fun i m H' => m = xs.length - i ∧ i ≤ xs.length ∧ ∃ env' F' acc', Ex F F' ∧ Sta K F' R (wipe σ c.vs) H' env' ∧ AccAt K F' R (wipe σ c.vs) H' env' L acc' ∧ turnsN c mb (xs.drop i) env' acc' = some q, ⟨xs.length, by simp, Nat.zero_le _, env, F, acc, Ex.refl F, S, A, e⟩, ?_⟩
  rintro i m H1 ⟨rfl, hi, env1, F1, acc1, ex1, S1, A1, e1⟩
  by_cases hlt : i < xs.length
  · have hx : xs[i]? = some xs[i] := List.getElem?_eq_getElem hlt
    rw [List.drop_eq_getElem_cons hlt] at e1
    have e1 : ((putT c.tg xs[i] env1).bind fun env1 => testN c.ft env1 fun b env2 => match b with
      | true => (mb env2 acc1).bind fun p => turnsN c mb (xs.drop (i + 1)) (clr c.vs p.2) p.1
      | false => turnsN c mb (xs.drop (i + 1)) (clr c.vs env2) acc1) = some q := e1
    rw [Option.bind_eq_some_iff] at e1
    obtain ⟨env2, h3, e1⟩ := e1
    obtain ⟨o, ho, eR, S2⟩ := A1.hold S1
    refine .inr ⟨wk.goes i H1 hlt (ex1.trans S1.sub), fun H2 => ∃ env' F' acc', Ex F F' ∧ Sta K F' R (wipe σ c.vs) H2 env' ∧ AccAt K F' R (wipe σ c.vs) H2 env' L acc' ∧ turnsN c mb (xs.drop (i + 1)) env' acc' = some q, fun H2 h => ⟨xs.length - (i + 1), by omega, rfl, hlt, h⟩, fun v H3 hy => ?_⟩
    obtain ⟨F3, e4, S3, rv, eH⟩ := wk.yields i H1 v H3 xs[i] hx ex1 S2 hy
    refine putT_in hv S3 rv h3 fun σ3 S4 hw => ⟨hw, ?_⟩
    have body : ∀ (env3 : Sl) (F5 H5 : Hp), Ex F3 F5 → Sta K F5 ⟨upd R.r L o, R.t, R.T⟩ σ3 H5 env3 → ((mb env3 acc1).bind fun p => turnsN c mb (xs.drop (i + 1)) (clr c.vs p.2) p.1) = some q →
        tb σ3 H5 fun H2 => ∃ env' F' acc', Ex F F' ∧ Sta K F' R (wipe σ c.vs) H2 env' ∧ AccAt K F' R (wipe σ c.vs) H2 env' L acc' ∧ turnsN c mb (xs.drop (i + 1)) env' acc' = some q := fun env3 F5 H5 e5 S5 e6 => by
      rw [Option.bind_eq_some_iff] at e6
      obtain ⟨p, h4, e6⟩ := e6
      obtain ⟨S6, A6⟩ := AccAt.back A1.r ho (e4.trans e5) S5
      refine hb S6 A6 h4 fun F7 H7 e7 S7 A7 => ?_
      have S8 := S7.wipe c.vs
      have a8 := A7.a.wipe (vs := c.vs)
      rw [wipe_wipe hs, clr_clr hs, hw] at S8 a8
      exact ⟨_, F7, p.1, ex1.trans (e4.trans (e5.trans e7)), S8, ⟨A7.o, A7.f, A7.r, a8⟩, e6⟩
    have skip : ∀ (env3 : Sl) (F5 H5 : Hp), Ex F3 F5 → Sta K F5 ⟨upd R.r L o, R.t, R.T⟩ σ3 H5 env3 → turnsN c mb (xs.drop (i + 1)) (clr c.vs env3) acc1 = some q →
        ∃ env' F' acc', Ex F F' ∧ Sta K F' R (wipe σ c.vs) H5 env' ∧ AccAt K F' R (wipe σ c.vs) H5 env' L acc' ∧ turnsN c mb (xs.drop (i + 1)) env' acc' = some q := fun env3 F5 H5 e5 S5 e6 => by
      obtain ⟨S6, A6⟩ := AccAt.back A1.r ho (e4.trans e5) S5
      have S8 := S6.wipe c.vs
      have a8 := A6.a.wipe (vs := c.vs)
      rw [hw] at S8 a8
      exact ⟨_, F5, acc1, ex1.trans (e4.trans e5), S8, ⟨A6.o, A6.f, A6.r, a8⟩, e6⟩
    unfold testN at e1
    cases hft : c.ft with
    | none =>
      rw [hft] at e1
      exact body env2 F3 H3 (Ex.refl _) S4 e1
    | some f =>
      rw [hft] at e1
      dsimp only at e1
      cases h6 : f env2 with
      | none => rw [h6] at e1; cases e1
      | some r6 =>
        rw [h6] at e1
        cases r6 with
        | ex _ _ => cases e1
        | ok a env3 =>
          dsimp only at e1
          rw [Option.bind_eq_some_iff] at e1
          obtain ⟨b, h7, e1⟩ := e1
          refine ⟨env2, F3, ⟨upd R.r L o, R.t, R.T⟩, _, S4, h6, b, h7, fun F5 H5 e5 S5 => ?_⟩
          cases b with
          | true => exact iteT (body env3 F5 H5 e5 S5 e1)
          | false => exact iteF (skip env3 F5 H5 e5 S5 e1)
  · have hi' : i = xs.length := by omega
    subst hi'
    rw [List.drop_length] at e1
    cases e1
    exact .inl ⟨wk.stops H1 (ex1.trans S1.sub), hN F1 H1 ex1 S1 A1⟩
end
end
end Dw
namespace Dw
noncomputable section
open PySem PySem.Spec PyProof.Rows L2
variable [Glo] [Tabs]
/-- a clause as it is written, and what it means -/
structure SCl where
  tg : Expr
  iter : Expr
  ifs : List Expr
  d : DCl
def SCl.cW (K : PySem.W.Frag) (W : WX) (s : SCl) : Cls := ⟨s.tg, s.iter, s.ifs, dI K W s.d.fi, gT K s.d.tg, tTD K s.d.ft, s.d.vs⟩
def SCl.g (s : SCl) : Comprehension := ⟨s.tg, s.iter, s.ifs, 0⟩
def okSub (s : SCl) : Bool := s.d.tg.sub s.d.vs
def chainB : List SCl → Bool
  | [] => true
  | [s] => okSub s
  | s :: t :: r => okSub s && (t.d.vs.all fun i => s.d.vs.contains i) && chainB (t :: r)
theorem chainB_sub : ∀ {cs : List SCl}, chainB cs = true → ∀ s ∈ cs, s.d.tg.sub s.d.vs = true
  | [s], h, u, hu => by rw [List.mem_singleton] at hu; subst hu; exact h
  | s :: t :: r, h, u, hu => by
    have h : (okSub s && (t.d.vs.all fun i => s.d.vs.contains i) && chainB (t :: r)) = true := h
    rw [Bool.and_eq_true, Bool.and_eq_true] at h
    rcases List.mem_cons.mp hu with e | hu
    · subst e; exact h.1.1
    · exact chainB_sub h.2 u hu
theorem chainB_ok {K : PySem.W.Frag} {W : WX} : ∀ {cs : List SCl}, chainB cs = true → Chain (cs.map (SCl.cW K W))
  | [], _ => trivial
  | [s], _ => ⟨fun i h => (by cases h), trivial⟩
  | s :: t :: r, h => by
    have h : (okSub s && (t.d.vs.all fun i => s.d.vs.contains i) && chainB (t :: r)) = true := h
    rw [Bool.and_eq_true, Bool.and_eq_true, List.all_eq_true] at h
    exact ⟨fun i hi => by have z := h.1.2 i hi; simp at z; exact z, chainB_ok h.2⟩
section
variable {K : PySem.W.Frag} {W : WX} {F F' : Hp} {R R' : Fm} {σ : L2.St} {H H' : Hp} {env env' : Sl} {L : Addr} {acc : C} {Q : VK}
theorem cls_ok {te : TB} {em : EmD} (hb : BodyOk K L te em []) : ∀ (cs : List SCl), chainB cs = true → BodyOk K L (tCls te (cs.map (SCl.cW K W0))) (clsN em (cs.map SCl.d)) (vsOf (cs.map (SCl.cW K W0)))
  | [], _ => fun S A e hN => hb S A e hN
  | s :: cs, hch => by
    rename_i F R σ H env acc p N
    intro S A e hN
    have ih : BodyOk K L (tCls te (cs.map (SCl.cW K W0))) (clsN em (cs.map SCl.d)) (vsOf (cs.map (SCl.cW K W0))) := cls_ok hb cs (by
      cases cs with
      | nil => rfl
      | cons t r =>
        have h : (okSub s && (t.d.vs.all fun i => s.d.vs.contains i) && chainB (t :: r)) = true := hch
        rw [Bool.and_eq_true] at h
        exact h.2)
    have ch := chainB_ok (K := K) (W := W0) hch
    have e : (match s.d.fi env with
      | some (.ok xs env1) => turnsN s.d (clsN em (cs.map SCl.d)) xs (clr s.d.vs env1) acc
      | _ => none) = some p := e
    cases h1 : s.d.fi env with
    | none => rw [h1] at e; cases e
    | some r =>
      rw [h1] at e
      cases r with
      | ex _ _ => cases e
      | ok xs env1 =>
        dsimp only at e
        obtain ⟨o, ho, eR, S1⟩ := A.hold S
        refine ⟨env, F, _, _, S1, h1, fun J F1 H1 e1 S2 wk => ?_⟩
        obtain ⟨S3, A3⟩ := AccAt.back A.r ho e1 S2
        refine turns_ok (c := s.d) (chainB_sub hch s List.mem_cons_self) ch.1 ih (S3.wipe s.d.vs) ⟨A3.o, A3.f, A3.r, A3.a.wipe⟩ wk e fun F4 H4 e4 S4 A4 => ?_
        have S5 := S4.wipe s.d.vs
        have a5 := A4.a.wipe (vs := s.d.vs)
        rw [wipe_wipe fun _ h => h] at S5 a5
        exact hN F4 H4 (e1.trans e4) S5 ⟨A4.o, A4.f, A4.r, a5⟩
theorem dE_cmpN {s : SCl} {cs : List SCl} {te : Addr → TB} {em : EmD} {a0 : C} {o0 : Addr → HO} (hch : chainB (s :: cs) = true) (h0 : ∀ L F, CellOk K F L (o0 L) a0) (hb : ∀ L, BodyOk K L (te L) em []) (h : dE K W (cmpN em a0 s.d (cs.map SCl.d)) σ H Q) : tCmp o0 te (s.cW K W) (cs.map (SCl.cW K W0)) σ H Q := by
  obtain ⟨env, F, R, r, S, e, p⟩ := h
  have e : (match s.d.fi env with
    | some (.ok xs env1) => (turnsN s.d (clsN em (cs.map SCl.d)) xs (clr s.d.vs env1) a0).map fun p => Re.ok (.own p.1) (rst s.d.vs env1 p.2)
    | some (.ex e env1) => some (.ex e env1)
    | none => none) = some r := e
  have hch2 : chainB cs = true := by
    cases cs with
    | nil => rfl
    | cons t r =>
      have h : (okSub s && (t.d.vs.all fun i => s.d.vs.contains i) && chainB (t :: r)) = true := hch
      rw [Bool.and_eq_true] at h
      exact h.2
  have ch := chainB_ok (K := K) (W := W0) hch
  cases h1 : s.d.fi env with
  | none => rw [h1] at e; cases e
  | some q =>
    rw [h1] at e
    cases q with
    | ex x env1 => cases e; exact ⟨env, F, R, _, S, h1, p⟩
    | ok xs env1 =>
      dsimp only at e
      rw [Option.map_eq_some_iff] at e
      obtain ⟨⟨ys, env9⟩, h2, rfl⟩ := e
      refine ⟨env, F, R, _, S, h1, fun J F1 H1 e1 S1 wk L hL => ?_⟩
      have ap : Apart (wipe σ s.d.vs) (clr s.d.vs env1) L := fun j b c' q z => by
        obtain ⟨p', o, z1, _, _, z4, _⟩ := (S1.wipe s.d.vs).own j b c' q
        rw [z] at z1
        cases z1
        rw [hL] at z4
        cases z4
      refine turns_ok (c := s.d) (chainB_sub hch s List.mem_cons_self) ch.1 (cls_ok (hb L) cs hch2) ((S1.wipe s.d.vs).freshH hL) ⟨⟨_, upd_same, h0 L F1⟩, S1.freeF hL, S1.freeR hL, ap⟩ wk h2 fun F4 H4 e4 S4 A4 => ?_
      obtain ⟨o, ho1, ho2⟩ := A4.o
      refine p _ F4 H4 (e1.trans e4) (Sta.unwipe S1 e4 S4) ⟨L, o, rfl, A4.f, A4.r, ho1, ho2, fun j b c' q z => ?_⟩
      by_cases hj : j ∈ s.d.vs
      · have := rst_in s.d.vs env1 env9 j _ hj q
        unfold keepD at this
        split at this <;> cases this
      · rw [rst_get s.d.vs env1 env9 j hj] at q
        exact A4.a j b c' q (by rw [wipe_get s.d.vs σ j hj]; exact z)
end
section
variable {X : Cx} {W : WX} {scope : Scope} {own : List (Str × Nat)} {pos : Pos} {s : SCl} {cs : List SCl} {gens : List Comprehension}
def OnAll (B : Cx) : List SCl → Prop
  | [] => True
  | s :: ss => (PI B s.tg s.iter (dI B.K W0 s.d.fi) ∧ (∀ x, foldedSetIterable s.iter B.env x = pure x) ∧ PG B s.tg (gT B.K s.d.tg) ∧ PTs B s.ifs (tTD B.K s.d.ft)) ∧ OnAll B ss
theorem OnAll.all {B : Cx} : ∀ {cs : List SCl}, OnAll B cs → ∀ c ∈ cs.map (SCl.cW B.K W0), c.On B
  | [], _, c, h => by cases h
  | s :: ss, ⟨⟨h1, h2, h3, h4⟩, h5⟩, c, h => by
    rw [List.map_cons] at h
    rcases List.mem_cons.mp h with e | h
    · subst e; exact ⟨h1, h2, ⟨h3, h4⟩⟩
    · exact OnAll.all h5 c h
theorem map_g (K : PySem.W.Frag) (W W' : WX) (s : SCl) (cs : List SCl) : (s :: cs).map SCl.g = (s.cW K W :: cs.map (SCl.cW K W')).map Cls.c := by
  rw [List.map_cons, List.map_cons, List.map_map]
  rfl
theorem chain0 {K : PySem.W.Frag} {W W' : WX} (h : chainB (s :: cs) = true) : Chain (s.cW K W :: cs.map (SCl.cW K W')) := by
  have a := chainB_ok (K := K) (W := W') h
  cases cs with
  | nil => exact ⟨fun i h => (by cases h), trivial⟩
  | cons t r => exact a
end
end
end Dw
namespace Dw
noncomputable section
open PySem PySem.Spec PyProof.Rows L2
variable [Glo] [Tabs]
def lookN (f : Str) : List Str → List D → Option D
  | n :: ns, x :: xs => if (f == n) = true then some x else lookN f ns xs
  | _, _ => none
def fldD (f : Str) : D → Option RV
  | .ins _ ns xs => (lookN f ns xs).map .d
  | _ => none
def putFn (f : Str) : List Str → List Str
  | [] => [f]
  | n :: ns => if n = f then n :: ns else n :: putFn f ns
def putFv (f : Str) (y : D) : List Str → List D → List D
  | n :: ns, x :: xs => if n = f then y :: xs else x :: putFv f y ns xs
  | _, _ => [y]
def ownI : Option SV → Option (Bool × Str × List Str × List D)
  | some (.own b (.ins c ns xs)) => some (b, c, ns, xs)
  | _ => none
def setF (f : Str) (j : Nat) (fe : SE) : SS := fun env => bindS (fe env) fun a env1 => (frz a env1).bind fun p => (ownI p.2[j]?).bind fun o =>
  if o.2.2.1.length < 900 then some (.nx (p.2.set j (.own o.1 (.ins o.2.1 (putFn f o.2.2.1) (putFv f p.1 o.2.2.1 o.2.2.2))))) else none
def insOf (c : Str) : D → Bool
  | .ins c' _ _ => c' == c
  | _ => false
def propE (c : Str) (m : List SV → Option FR) (fe : SE) : SE := fun env => bindE (fe env) fun a env1 => (frz a env1).bind fun p => if insOf c p.1 = true then (m [.d p.1]).bind (outD p.2) else none
end
end Dw
namespace Dw
noncomputable section
open PySem PySem.Spec PyProof.Rows L2
variable [Glo] [Tabs]
def insNo (c nm : Str) : D → Bool
  | .ins c' ns _ => c' == c && !ns.contains nm
  | _ => false
def methE (c nm : Str) (m : List SV → Option FR) (dfs : List D) (fe : SE) (fa : SA) : SE := fun env => bindE (fe env) fun a env1 => (frz a env1).bind fun p => if insNo c nm p.1 = true then
  bindA (fa p.2) fun as env2 => (frzs as env2).bind fun p2 => (m (((p.1 :: p2.1) ++ dfs).map .d)).bind (outD p2.2) else none
def outN (env : Sl) : FR → Option Re
  | .ok (.d .non) (.own true c :: _) => some (.ok (.own c) env)
  | .ex e (.own true _ :: _) => some (.ex e env)
  | _ => none
def newE (c : Str) (m : List SV → Option FR) (dfs : List D) (fa : SA) : SE := fun env => bindA (fa env) fun as env1 => (frzs as env1).bind fun p => (m (.own true (.ins c [] []) :: (p.1 ++ dfs).map .d)).bind (outN p.2)
end
end Dw
namespace Dw
noncomputable section
open PySem PySem.Spec PyProof.Rows L2
variable [Glo] [Tabs]
mutual
/-- the value v is this key, as far as the tracked heap tells -/
inductive KeyAt (K : PySem.W.Frag) (H : Hp) : V → NestedKey → Prop
  | non : KeyAt K H .non .none
  | bl (b : Bool) : KeyAt K H (.bl b) (.num (if b = true then 1 else 0))
  | int (i : Int) : KeyAt K H (.int i) (.num i)
  | str (x : Str) : KeyAt K H (.str x) (.text x)
  | tup {a : Addr} {xs : List V} {ks : List NestedKey} : SqT K H a xs → KeysAt K H xs ks → KeyAt K H (.ref a) (.tup ks)
inductive KeysAt (K : PySem.W.Frag) (H : Hp) : List V → List NestedKey → Prop
  | nil : KeysAt K H [] []
  | cons {v : V} {vs : List V} {k : NestedKey} {ks : List NestedKey} : KeyAt K H v k → KeysAt K H vs ks → KeysAt K H (v :: vs) (k :: ks)
end
section
variable {K : PySem.W.Frag} {F H : Hp}
mutual
theorem rel_key (e : Ex F H) : ∀ (d : D) (v : V) (k : NestedKey), Rel K F v d → nkD d = some k → KeyAt K H v k
  | .non, _, _, h, q => by cases h; cases q; exact .non
  | .bl b, _, _, h, q => by cases h; cases q; exact .bl b
  | .int i, _, _, h, q => by cases h; cases q; exact .int i
  | .str x, _, _, h, q => by cases h; cases q; exact .str _
  | .tup xs, _, k, h, q => by
    have q5 : (nkDs xs).map NestedKey.tup = some k := by rw [nkD] at q; exact q
    rw [Option.map_eq_some_iff] at q5
    obtain ⟨ks, q6, rfl⟩ := q5
    cases h with
    | tup s r => exact .tup (ex_t e s) (rels_key e xs _ ks r q6)
  | .lst _, _, _, _, q => by rw [nkD] at q; cases q; all_goals (intros; contradiction)
  | .dct _ _, _, _, _, q => by rw [nkD] at q; cases q; all_goals (intros; contradiction)
  | .ins _ _ _, _, _, _, q => by rw [nkD] at q; cases q; all_goals (intros; contradiction)
  | .dcu _ _, _, _, _, q => by rw [nkD] at q; cases q; all_goals (intros; contradiction)
theorem rels_key (e : Ex F H) : ∀ (ds : List D) (vs : List V) (ks : List NestedKey), RelAll K F vs ds → nkDs ds = some ks → KeysAt K H vs ks
  | [], _, _, h, q => by cases h; rw [nkDs] at q; cases q; exact .nil
  | d :: ds, _, ks, h, q => by
    rw [nkDs, Option.bind_eq_some_iff] at q
    obtain ⟨k, q1, q⟩ := q
    rw [Option.map_eq_some_iff] at q
    obtain ⟨ks', q2, rfl⟩ := q
    cases h with
    | cons a b => exact .cons (rel_key e d _ k a q1) (rels_key e ds _ ks' b q2)
end
end
section
variable {X : Cx} {pins : List (Addr × Obj)} {σ : L2.St} {H : Hp} {s : Shared}
mutual
theorem key_is (I : Inv X pins σ H s) : ∀ (k : NestedKey) (v : V) (u : Value), KeyAt X.K H v k → RelV v u → NestedIs s.heap k u
  | .none, _, _, h, r => by cases h; cases r; exact .none
  | .num i, _, _, h, r => by
    cases h with
    | bl b => cases r; exact .bool rfl
    | int i => obtain ⟨t, rfl⟩ := r; exact .int _ t
  | .text x, _, _, h, r => by
    cases h
    obtain ⟨t, rfl⟩ := r
    exact .text _ t
  | .tup ks, _, u, h, r => by
    cases h with
    | @tup a xs _ ht hk =>
      obtain rfl : u = Value.ref a := r
      obtain ⟨its, rv, ⟨o, h1, h2, n, h3⟩, _⟩ := I.tuple ht
      exact .tup h1 h2 h3 (by rw [List.toList_toArray]; exact keys_is I ks xs its hk rv)
theorem keys_is (I : Inv X pins σ H s) : ∀ (ks : List NestedKey) (vs : List V) (us : List Value), KeysAt X.K H vs ks → Vals vs us → NestedAll s.heap ks us
  | [], _, _, h, r => by cases h; cases r; exact .nil
  | k :: ks, _, _, h, r => by
    cases h with
    | cons a b =>
      cases r with
      | cons c d => exact .cons (key_is I k _ _ a c) (keys_is I ks _ _ b d)
end
/-- all keys of a dict are keys -/
def KeysOk (K : PySem.W.Frag) (H : Hp) (es : List (NestedKey × Addr × Value)) : Prop := ∀ x ∈ es, KeyAt K H (.ref x.2.1) x.1
theorem dx_at (I : Inv X pins σ H s) {D : Addr} {es : List (NestedKey × Addr × Value)} (hD : H D = some (dxO X.w D es)) (hk : KeysOk X.K H es) : s.heap.DictOfH (nestedKind X.prog X.w) D es ∧ (D == sysModules) = false ∧ es.length ≤ sizeLine := by
  obtain ⟨⟨o, es', ep, h1, h2, h3, h4, h5, h6, h7, h8⟩, _⟩ := I.hok D _ hD
  exact ⟨⟨o, es', ep, h1, h2, h3, h4, fun x hx => ⟨key_is I x.1 _ _ (hk x hx) rfl, h6 x hx⟩, h5⟩, h7, h8⟩
theorem dx_new {P : Program} {w : World} {H : Hp} {h : Heap} {D : Addr} {es : List (NestedKey × Addr × Value)} (m : h.DictOfH (nestedKind P w) D es) (hd : (D == sysModules) = false) (hl : es.length ≤ sizeLine) : ObjOk P w H h D (dxO w D es) := by
  obtain ⟨o, es', ep, h1, h2, h3, h4, h5, h6⟩ := m
  exact ⟨⟨o, es', ep, h1, h2, h3, h4, h6, fun x hx => (h5 x hx).2, hd, hl⟩, ⟨o, h1⟩, fun a b ⟨o, es', ep, g1, g⟩ k => ⟨o, es', ep, k o g1, g⟩⟩
theorem newOf_dx (w : World) : NewOf newDict { cls := .type "dict", data := .dict #[] } (fun D => dxO w D []) := by
  refine ⟨fun h => wpAny_newObj_type h, fun {P w' H h} hb => ?_⟩
  exact ⟨⟨_, #[], 0, Heap.get?_push_size _ rfl, ⟨rfl, rfl, rfl⟩, rfl, rfl, List.nodup_nil, fun _ hx => by simp at hx, by rw [beq_eq_false_iff_ne]; exact Nat.ne_of_gt hb, Nat.zero_le _⟩, ⟨_, Heap.get?_push_size _ rfl⟩, fun a b ⟨o, es', ep, g1, g⟩ k => ⟨o, es', ep, k o g1, g⟩⟩
end
/-- an entry of such a dict -/
def teU (K : PySem.W.Frag) (w : World) (tk tv : TE) (D : Addr) : TB := fun σ H N => tk σ H fun y H1 => tv σ H1 fun z H2 => ∃ es k b, y = .ref b ∧ H2 D = some (dxO w D es) ∧ KeyAt K H2 y k ∧ k.depth ≤ 8 ∧ KeysOk K H2 es ∧ es.length < sizeLine ∧ ∀ r, RelV z r → N (upd H2 D (dxO w D (storedH es k b r)))
theorem pem_u {B : Cx} {kx vx : Expr} {tk tv : TE} {D : Addr} {p : Pos} (hx : B.xe = fun _ _ => False) (hu : B.A.units + 8 < cLine) (hk : PE B kx tk) (he : PE B vx tv) :
    PEm B (eval kx B.env >>= fun kv => holding [kv] (eval vx B.env) >>= fun vv => standAt p >>= fun _ => holding [kv, vv] (dictSet D kv vv)) (teU B.K B.w tk tv D) := fun pins s σ H N I h => by
  have z := hk.run pins s σ H _ I h
  rw [hx] at z
  refine wpAny_bind (thn z fun u s1 h1 => ?_)
  obtain ⟨y, H1, I1, r1, h2⟩ := h1
  have z2 := he.run pins s1 σ H1 _ I1 h2
  rw [hx] at z2
  refine wpAny_bind (wpAny_holding (thn z2 fun u2 s2 h3 => ?_))
  obtain ⟨v, H2, I2, r2, es, k, b, rfl, hD, ka, kd, ks, hl, n⟩ := h3
  obtain rfl : u = Value.ref b := r1
  obtain ⟨m, hd, _⟩ := dx_at I2 hD ks
  refine wpAny_bind (wpAny_standAt (wpAny_holding (wpAny_dictSet_heap (knd := nestedKind B.prog B.w) (hsz := Nat.le_of_lt hl) hu ⟨key_is I2 k _ _ ka rfl, kd⟩ m fun h' m' hs => ?_)))
  obtain ⟨o, es', ep, g1, _⟩ := id m'
  refine ⟨_, d_write (ob := dxO B.w D (storedH es k b u2)) I2 (by rw [hD]; exact True.intro) hs ⟨o, g1⟩ (dx_new m' hd ?_), n u2 r2⟩
  have := storedH_length es k b u2
  omega
section
variable {X : Cx} {scope : Scope} {own : List (Str × Nat)} {pos : Pos} {c0 : Cls} {cs : List Cls} {gens : List Comprehension}
theorem pe_dcU {kx vx : Expr} {tk tv : TE} (hc : X.calm = true) (hN : X.N.Nodup) (hu : X.A.units + 8 < cLine) (hg : gens = (c0 :: cs).map Cls.c) (hi : PI X c0.tg c0.iter c0.wi) (ok : BlkOk X.N X.env.scope scope own) (hv : c0.vs = own.map (·.2)) (hch : Chain (c0 :: cs))
    (h0 : InBlk X scope c0.In) (h1 : InBlk X scope fun B => ∀ c ∈ cs, c.On B) (hk : InBlk X scope fun B => PE B kx tk) (he : InBlk X scope fun B => PE B vx tv) (hs : ∀ x, foldedSetIterable c0.iter X.env x = pure x := by intro _; rfl) :
    PE X (.DictComp kx vx gens scope pos) (tCmp (fun D => dxO X.w D []) (teU X.K X.w tk tv) c0 cs) := by
  subst hg
  refine ⟨fun pins s σ H Q I h => ?_⟩
  rw [arm_eval_DictComp]
  refine comp_core (emit := fun acc env => match acc with | .ref D => eval kx env >>= fun kv => holding [kv] (eval vx env) >>= fun vv => standAt { kx.pos with endLine := vx.pos.endLine, endCol := vx.pos.endCol } >>= fun _ => holding [kv, vv] (dictSet D kv vv) | _ => pure ()) hc hN I (fun D => compOf_dict) hi hs ok hv hch h0 h1
    (fun s H C cl fp D => pem_u (B := X.blk s H scope (compEnvC scope cl C X.env) fp) rfl hu (hk s H C cl fp) (he s H C cl fp)) (newOf_dx X.w) h fun D C s' m H' I' q hn f => ⟨m, hn, fun h'' sb => ?_⟩
  obtain ⟨f0, f1, f2, f3, f4, f5⟩ := f
  exact ⟨.ref D, H', I'.turned (t' := s'.toks) (fun b o hb e => (sb.2 b hb).trans e) f0 f1 f3 f4 f5, rfl, q⟩
end
end
end Dw
namespace Dw
noncomputable section
open PySem PySem.Spec PyProof.Rows L2
variable [Glo] [Tabs]
def keyU (a b : D) : Bool := decide (nkD a = nkD b)
def okKU (k : D) : Bool := match k with
  | .tup xs => (match nkD (.tup xs) with
    | some q => decide (q.depth ≤ 8)
    | none => false)
  | _ => false
def atU : List D → List D → D → Option D
  | k :: ks, v :: vs, x => if keyU k x = true then some v else atU ks vs x
  | _, _, _ => none
def setU : List D → List D → D → D → List D
  | k :: ks, v :: vs, x, y => (if keyU k x = true then y else v) :: setU ks vs x y
  | _, _, _, _ => []
def hasU (ks : List D) (x : D) : Bool := ks.any fun k => keyU k x
def putUk (ks : List D) (x : D) : List D := if hasU ks x = true then ks else ks ++ [x]
def putUv (ks vs : List D) (x y : D) : List D := if hasU ks x = true then setU ks vs x y else vs ++ [y]
theorem okKU_inv {k : D} (h : okKU k = true) : ∃ xs q, k = .tup xs ∧ nkD k = some q ∧ q.depth ≤ 8 := by
  cases k with
  | tup xs =>
    have h : (match nkD (.tup xs) with | some q => decide (q.depth ≤ 8) | none => false) = true := h
    cases hq : nkD (.tup xs) with
    | none => rw [hq] at h; cases h
    | some q => rw [hq] at h; exact ⟨xs, q, rfl, rfl, of_decide_eq_true h⟩
  | _ => cases h
structure UOk (K : PySem.W.Frag) (F : Hp) (es : List (NestedKey × Addr × Value)) (us : List V) (ks vs : List D) : Prop where
  n : ks.map nkD = es.map (fun x => some x.1)
  k : RelAll K F (es.map fun x => .ref x.2.1) ks
  u : Vals us (es.map (·.2.2))
  v : RelAll K F us vs
section
variable {K : PySem.W.Frag} {F F' : Hp}
theorem UOk.up (e : Ex F F') {es us ks vs} (h : UOk K F es us ks vs) : UOk K F' es us ks vs := ⟨h.n, h.k.up e, h.u, h.v.up e⟩
theorem UOk.inv {x : NestedKey × Addr × Value} {es us ks vs} (h : UOk K F (x :: es) us ks vs) : ∃ u us' k ks' v vs', us = u :: us' ∧ ks = k :: ks' ∧ vs = v :: vs' ∧ nkD k = some x.1 ∧ Rel K F (.ref x.2.1) k ∧ RelV u x.2.2 ∧ Rel K F u v ∧ UOk K F es us' ks' vs' := by
  obtain ⟨n, k, u, v⟩ := h
  cases k with
  | @cons _ _ k0 ks' a b =>
    cases u with
    | @cons u0 _ us' _ c d =>
      cases v with
      | @cons _ _ v0 vs' e f =>
        rw [List.map_cons, List.map_cons] at n
        injection n with n1 n2
        exact ⟨u0, us', k0, ks', v0, vs', rfl, rfl, rfl, n1, a, c, e, n2, b, d, f⟩
theorem UOk.nil {us ks vs} (h : UOk K F [] us ks vs) : us = [] ∧ ks = [] ∧ vs = [] := by
  obtain ⟨n, k, u, v⟩ := h
  cases k
  cases u
  cases v
  exact ⟨rfl, rfl, rfl⟩
theorem keyU_dec {a b : D} {p q : NestedKey} (ha : nkD a = some p) (hb : nkD b = some q) : keyU a b = decide (p = q) := by
  unfold keyU
  rw [ha, hb]
  by_cases h : p = q
  · rw [decide_eq_true h, decide_eq_true (by rw [h])]
  · rw [decide_eq_false h, decide_eq_false (fun z => h (Option.some.inj z))]
theorem atKey_cons {x : NestedKey × Addr × Value} {es : List (NestedKey × Addr × Value)} {q : NestedKey} : atKey (x :: es) q = if x.1 = q then some x.2 else atKey es q := by
  unfold atKey
  rw [List.find?_cons]
  by_cases h : x.1 = q
  · rw [decide_eq_true h, if_pos h]; rfl
  · rw [decide_eq_false h, if_neg h]
theorem atU_rel {k : D} {q : NestedKey} (hk : nkD k = some q) : ∀ {es us ks vs}, UOk K F es us ks vs → (atU ks vs k = none ∧ atKey es q = none ∧ hasU ks k = false) ∨ ∃ d a r u, atU ks vs k = some d ∧ atKey es q = some (a, r) ∧ hasU ks k = true ∧ RelV u r ∧ Rel K F u d
  | [], us, ks, vs, h => by
    obtain ⟨rfl, rfl, rfl⟩ := h.nil
    exact .inl ⟨rfl, rfl, rfl⟩
  | x :: es, us, ks, vs, h => by
    obtain ⟨u, us', k0, ks', v, vs', rfl, rfl, rfl, h1, h2, h3, h4, h5⟩ := h.inv
    have e1 : atU (k0 :: ks') (v :: vs') k = if keyU k0 k = true then some v else atU ks' vs' k := rfl
    have e2 : hasU (k0 :: ks') k = (keyU k0 k || hasU ks' k) := rfl
    rw [e1, e2, atKey_cons, keyU_dec h1 hk]
    by_cases c : x.1 = q
    · rw [if_pos c, decide_eq_true c]
      exact .inr ⟨v, x.2.1, x.2.2, u, rfl, rfl, rfl, h3, h4⟩
    · rw [if_neg c, decide_eq_false c, if_neg (by simp), Bool.false_or]
      exact atU_rel hk h5
theorem setU_rel {k d : D} {q : NestedKey} {z : V} {r : Value} (hk : nkD k = some q) (hz : Rel K F z d) (hr : RelV z r) : ∀ {es us ks vs}, UOk K F es us ks vs → ∃ us', UOk K F (es.map (putAt q r)) us' ks (setU ks vs k d)
  | [], us, ks, vs, h => by
    obtain ⟨rfl, rfl, rfl⟩ := h.nil
    exact ⟨[], rfl, .nil, .nil, .nil⟩
  | x :: es, us, ks, vs, h => by
    obtain ⟨u, us', k0, ks', v, vs', rfl, rfl, rfl, h1, h2, h3, h4, h5⟩ := h.inv
    obtain ⟨us2, i1, i2, i3, i4⟩ := setU_rel hk hz hr h5
    have e1 : setU (k0 :: ks') (v :: vs') k d = (if keyU k0 k = true then d else v) :: setU ks' vs' k d := rfl
    rw [e1, keyU_dec h1 hk, List.map_cons]
    by_cases c : x.1 = q
    · rw [decide_eq_true c, if_pos rfl, putAt, if_pos c]
      exact ⟨z :: us2, by rw [List.map_cons, List.map_cons, i1, h1], .cons h2 i2, .cons hr i3, .cons hz i4⟩
    · rw [decide_eq_false c, if_neg (by simp), putAt, if_neg c]
      exact ⟨u :: us2, by rw [List.map_cons, List.map_cons, i1, h1], .cons h2 i2, .cons h3 i3, .cons h4 i4⟩
theorem putU_rel {k d : D} {q : NestedKey} {b : Addr} {z : V} {r : Value} (hk : nkD k = some q) (hb : Rel K F (.ref b) k) (hz : Rel K F z d) (hr : RelV z r) {es us ks vs} (h : UOk K F es us ks vs) : ∃ us', UOk K F (storedH es q b r) us' (putUk ks k) (putUv ks vs k d) := by
  rcases atU_rel hk h with ⟨_, h1, h2⟩ | ⟨d', a, r', u, _, h1, h2, _⟩
  · rw [storedH_new h1]
    unfold putUk putUv
    rw [h2, if_neg (by simp), if_neg (by simp)]
    obtain ⟨n, k', u, v⟩ := h
    exact ⟨us ++ [z], by rw [List.map_append, List.map_append, n]; simp [hk], by rw [List.map_append]; exact k'.app (.cons hb .nil), by rw [List.map_append]; exact u.append (.cons hr .nil), v.app (.cons hz .nil)⟩
  · rw [storedH_old h1]
    unfold putUk putUv
    rw [h2, if_pos rfl, if_pos rfl]
    exact setU_rel hk hz hr h
end
/-- an entry -/
def emU (fk fv : SE) : EmD := fun env acc => match acc, fk env with
  | .dcu ks vs, some (.ok (.d k) env1) => (eltD fv env1).bind fun p => if okKU k = true ∧ ks.length < 100000 then some (.dcu (putUk ks k) (putUv ks vs k p.1), p.2) else none
  | _, _ => none
section
variable {K : PySem.W.Frag} {W : WX} {F F' : Hp} {R R' : Fm} {σ : L2.St} {H H' : Hp} {env env' : Sl} {L : Addr} {acc : C} {Q : VK}
theorem UOk.keys (e : Ex F H) : ∀ {es us ks vs}, UOk K F es us ks vs → KeysOk K H es
  | [], _, _, _, _, x, hx => by cases hx
  | y :: es, us, ks, vs, h, x, hx => by
    obtain ⟨u, us', k0, ks', v, vs', rfl, rfl, rfl, h1, h2, h3, h4, h5⟩ := h.inv
    rcases List.mem_cons.mp hx with z | hx
    · subst z; exact rel_key e k0 _ _ h2 h1
    · exact UOk.keys e h5 x hx
theorem UOk.len {es us ks vs} (h : UOk K F es us ks vs) : es.length = ks.length := by
  have := congrArg List.length h.n
  rw [List.length_map, List.length_map] at this
  exact this.symm
theorem body_u {fk fv : SE} : BodyOk K L (teU K Glo.w (dE K W0 fk) (dE K W0 fv) L) (emU fk fv) [] := fun {F R σ H env acc p N} S A e hN => by
  unfold emU at e
  cases acc with
  | dcu ks vs =>
    cases h1 : fk env with
    | none => rw [h1] at e; cases e
    | some r1 =>
      rw [h1] at e
      cases r1 with
      | ex _ _ => cases e
      | ok a1 env1 =>
        cases a1 with
        | own _ => cases e
        | cv _ => cases e
        | d k =>
          dsimp only at e
          rw [Option.bind_eq_some_iff] at e
          obtain ⟨⟨y, env4⟩, h4, e⟩ := e
          obtain ⟨⟨hk, hle⟩, rfl⟩ := some_if e
          obtain ⟨xs, q, rfl, hq, hd⟩ := okKU_inv hk
          unfold eltD at h4
          cases h5 : fv env1 with
          | none => rw [h5] at h4; cases h4
          | some r5 =>
            rw [h5] at h4
            cases r5 with
            | ex _ _ => cases h4
            | ok a env5 =>
              obtain ⟨o, ho, eR, S1⟩ := A.hold S
              refine ⟨env, F, _, _, S1, h1, fun u F5 H5 e5 S5 ru => ⟨env1, F5, _, _, S5, h5, fun w F6 H6 e7 S6 rw' => ?_⟩⟩
              have ru : Rel K F5 u (.tup xs) := ru
              obtain ⟨b, rfl⟩ : ∃ b, u = V.ref b := by cases ru; exact ⟨_, rfl⟩
              obtain ⟨F7, e8, S7, r7⟩ := frz_ok S6 rw' h4
              obtain ⟨S8, A8⟩ := AccAt.back A.r ho (e5.trans (e7.trans e8)) S7
              obtain ⟨o', k1, es, us, rfl, c1, c2, c3, c4⟩ := A8.o
              have U : UOk K F7 es us ks vs := ⟨c1, c2, c3, c4⟩
              have rb := ru.up (e7.trans e8)
              refine ⟨es, q, b, rfl, k1, rel_key S8.sub _ _ _ rb hq, hd, U.keys S8.sub, by rw [U.len]; exact Nat.lt_of_lt_of_le hle (by decide : 100000 ≤ sizeLine), fun r hr => ?_⟩
              obtain ⟨us', U'⟩ := putU_rel hq rb r7 hr U
              obtain ⟨S9, A9⟩ := A8.put S8 (o' := dxO Glo.w L (storedH es q b r)) (acc' := .dcu (putUk ks (.tup xs)) (putUv ks vs (.tup xs) y)) ⟨_, us', rfl, U'.n, U'.k, U'.u, U'.v⟩
              exact hN F7 _ (e5.trans (e7.trans e8)) S9 A9
  | _ => cases e
end
section
variable {X : Cx} {W : WX} {scope : Scope} {own : List (Str × Nat)} {pos : Pos} {s : SCl} {cs : List SCl} {gens : List Comprehension}
theorem pd_dcU {kx vx : Expr} {fk fv : SE} (hW : X.w = Glo.w) (hg : gens = (s :: cs).map SCl.g) (hch : chainB (s :: cs) = true) (hc : X.calm = true) (hN : X.N.Nodup) (hu : X.A.units + 8 < cLine) (ok : BlkOk X.N X.env.scope scope own) (hv : s.d.vs = own.map (·.2)) (hi : PI X s.tg s.iter (dI X.K W s.d.fi))
    (h0 : InBlk X scope fun B => PG B s.tg (gT X.K s.d.tg) ∧ PTs B s.ifs (tTD X.K s.d.ft)) (h1 : InBlk X scope fun B => OnAll B cs) (hk : InBlk X scope fun B => PE B kx (dE X.K W0 fk)) (he : InBlk X scope fun B => PE B vx (dE X.K W0 fv)) (hs : ∀ x, foldedSetIterable s.iter X.env x = pure x := by intro _; rfl) :
    PE X (.DictComp kx vx gens scope pos) (dE X.K W (cmpN (emU fk fv) (.dcu [] []) s.d (cs.map SCl.d))) := by
  refine (pe_dcU (c0 := s.cW X.K W) (cs := cs.map (SCl.cW X.K W0)) (tk := dE X.K W0 fk) (tv := dE X.K W0 fv) hc hN hu (by rw [hg]; exact map_g X.K W W0 s cs) hi ok hv (chain0 hch) (fun s H C cl fp => let z := h0 s H C cl fp; ⟨z.1, z.2⟩) (fun s H C cl fp => (h1 s H C cl fp).all) hk he hs).wk
    fun _ _ _ q => ?_
  rw [hW]
  exact dE_cmpN (te := teU X.K Glo.w (dE X.K W0 fk) (dE X.K W0 fv)) (a0 := .dcu [] []) (o0 := fun D => dxO Glo.w D []) hch (fun L F => ⟨[], [], rfl, rfl, .nil, .nil, .nil⟩) (fun L => body_u) q
end
def getU : D → D → Option RV
  | .dcu ks vs, k => if okKU k = true then (atU ks vs k).map .d else none
  | _, _ => none
def rGetU (K : PySem.W.Frag) (w : World) : R2 := fun x y H Q => ∃ a b es k p z, x = .ref a ∧ y = .ref b ∧ H a = some (dxO w a es) ∧ KeyAt K H y k ∧ k.depth ≤ 8 ∧ KeysOk K H es ∧ atKey es k = some p ∧ RelV z p.2 ∧ Q z H
theorem snd_getU {K : PySem.W.Frag} : Snd2 K getU (rGetU K Glo.w) := by
  intro W F R σ H env Q x y v w z S hx hy e p
  cases x with
  | dcu ks vs =>
    obtain ⟨a, es, us, rfl, hs, c1, c2, c3, c4⟩ := hx
    have e : (if okKU y = true then (atU ks vs y).map RV.d else none) = some z := e
    by_cases hk : okKU y = true
    · rw [if_pos hk, Option.map_eq_some_iff] at e
      obtain ⟨d, h1, rfl⟩ := e
      obtain ⟨xs, q, rfl, hq, hd⟩ := okKU_inv hk
      have ry : Rel K F w (.tup xs) := hy
      obtain ⟨b, rfl⟩ : ∃ b, w = V.ref b := by cases ry; exact ⟨_, rfl⟩
      have U : UOk K F es us ks vs := ⟨c1, c2, c3, c4⟩
      rcases atU_rel hq U with ⟨h2, _⟩ | ⟨d', a', r, u, h2, h3, _, h4, h5⟩
      · rw [h2] at h1; cases h1
      · rw [h2] at h1
        cases h1
        exact ⟨a, b, es, q, (a', r), u, rfl, rfl, hs, rel_key S.sub _ _ _ ry hq, hd, U.keys S.sub, h3, h4, post_d S p h5⟩
    · rw [if_neg hk] at e; cases e
  | _ => cases e
def tGetU (K : PySem.W.Frag) (w : World) (ta tb : TE) : TE := fun σ H Q => ta σ H fun x H1 => tb σ H1 fun y H2 => rGetU K w x y H2 Q
section
variable {X : Cx} {W : WX} {a b : Expr} {ta tb : TE} {fa fb : SE} {pos : Pos} {k : Nat}
theorem pe_getU (hu : X.A.units + 9 < cLine) (ho : PE X a ta) (hi : PE X b tb) (hs : NoSl b) : PE X (.Subscript a b pos) (tGetU X.K X.w ta tb) := by
  refine ⟨fun pins s σ H Q I h => subD_of PySem.F.slot_dict_getitem.lookup hs (thn (ho.run pins s σ H _ I h) fun u s1 h1 => ?_)⟩
  obtain ⟨x, H1, I1, rx, q1⟩ := h1
  refine thn (hi.run pins s1 σ H1 _ I1 q1) fun iv s2 h2 => ?_
  obtain ⟨y, H2, I2, ry, a', b', es, kk, p, z, rfl, rfl, hD, ka, kd, ks, hp, hz, qq⟩ := h2
  obtain rfl : u = Value.ref a' := rx
  obtain rfl : iv = Value.ref b' := ry
  obtain ⟨m, hd, _⟩ := dx_at I2 hD ks
  refine ⟨m.typeIs, wpAny_getItem_heap (knd := nestedKind X.prog X.w) (show X.A.units + 1 + 8 < cLine by omega) ⟨key_is I2 kk _ _ ka rfl, kd⟩ m hp ?_⟩
  exact ⟨z, H2, I2.tok _, hz, qq⟩
theorem pd_getU (hW : X.w = Glo.w) (hr : Room k X.A) (ha : PE X a (dE X.K W fa)) (hb : PE X b (dE X.K W fb)) (hs : NoSl b := by exact fun _ _ => rfl) : PE X (.Subscript a b pos) (dE X.K W (two (op2 getU) fa fb)) := by
  refine (pe_getU (by have := hr.units; omega) ha hb hs).wk fun σ H Q q => dE_two q fun _ _ _ _ _ _ _ _ S h1 h2 h => ?_
  rw [hW]
  exact op2_snd snd_getU S h1 h2 h
end
end
end Dw
namespace Dw
noncomputable section
open PySem PySem.Spec PyProof.Rows L2
variable [Glo] [Tabs]
theorem u8_of {u c : Nat} (h : u + 65 < c) : u + 8 < c := by omega
section
variable {X : Cx} {W : WX} {fe fk fv : SE} {elt kx vx tg iter tg1 iter1 : Expr} {ifs ifs1 : List Expr} {fi fi1 : SI} {gt gt1 : Tg} {ft ft1 : Option SE} {vs vs1 : List Nat} {scope : Scope} {own : List (Str × Nat)} {pos : Pos}
theorem pd_dcU1 (hW : X.w = Glo.w) (hch : chainB [⟨tg, iter, ifs, ⟨fi, gt, ft, vs⟩⟩] = true) (hc : X.calm = true) (hN : X.N.Nodup) (hu : X.A.units + 8 < cLine) (ok : BlkOk X.N X.env.scope scope own) (hv : vs = own.map (·.2)) (hi : PI X tg iter (dI X.K W fi))
    (h0 : InBlk X scope fun B => PG B tg (gT X.K gt) ∧ PTs B ifs (tTD X.K ft)) (hk : InBlk X scope fun B => PE B kx (dE X.K W0 fk)) (he : InBlk X scope fun B => PE B vx (dE X.K W0 fv))
    (hs : ∀ x, foldedSetIterable iter X.env x = pure x := by intro _; rfl) :
    PE X (.DictComp kx vx [⟨tg, iter, ifs, 0⟩] scope pos) (dE X.K W (cmpN (emU fk fv) (.dcu [] []) ⟨fi, gt, ft, vs⟩ [])) :=
  pd_dcU (s := ⟨tg, iter, ifs, ⟨fi, gt, ft, vs⟩⟩) (cs := []) hW rfl hch hc hN hu ok hv hi h0 (fun s H C cl fp => trivial) hk he hs
end
end
end Dw
namespace Dw
noncomputable section
open PySem PySem.Spec PyProof.Rows L2
variable [Glo] [Tabs]
section
variable {env env1 env2 e0 : Sl} {a b : RV} {x y : D} {z : RV} {i j : Nat} {fa fb fc fo fe fk fv : SE} {as : List RV} {fr fs : SA} {xs ys : List D} {r : Option Re} {Q : QE} {E : QX} {R : QE} {B Ct : Sl → Prop} {N : Sl → Prop} {c : Str} {nm f : Str} {m : List SV → Option FR} {dfs : List D} {vs : List SV}
theorem w_prop (h : wE fe env (fun u e1 => wr ((frz u e1).bind fun p => if insOf c p.1 = true then (m [.d p.1]).bind (outD p.2) else none) Q E) E) : wE (propE c m fe) env Q E := wr_bind h
theorem w_prop1 (h : frz a env = some (x, env1)) (hi : insOf c x = true) (q : wC (m [.d x]) env1 Q E) : wr ((frz a env).bind fun p => if insOf c p.1 = true then (m [.d p.1]).bind (outD p.2) else none) Q E := by
  rw [h, Option.bind_some, if_pos hi]; exact wC_wr q
theorem w_meth (h : wE fo env (fun u e1 => wr ((frz u e1).bind fun p => if insNo c nm p.1 = true then
  bindA (fs p.2) fun as env2 => (frzs as env2).bind fun p2 => (m (((p.1 :: p2.1) ++ dfs).map .d)).bind (outD p2.2) else none) Q E) E) : wE (methE c nm m dfs fo fs) env Q E := wr_bind h
theorem w_meth1 (h : frz a env = some (x, env1)) (hi : insNo c nm x = true) (q : wA fs env1 (fun as e2 => wr ((frzs as e2).bind fun p2 => (m (((x :: p2.1) ++ dfs).map .d)).bind (outD p2.2)) Q E) E) : wr ((frz a env).bind fun p => if insNo c nm p.1 = true then
  bindA (fs p.2) fun as env2 => (frzs as env2).bind fun p2 => (m (((p.1 :: p2.1) ++ dfs).map .d)).bind (outD p2.2) else none) Q E := by
  rw [h, Option.bind_some, if_pos hi]; exact wr_bindA q
theorem w_meth2 (h : frzs as env = some (xs, env1)) (he : ((x :: xs) ++ dfs).map SV.d = vs) (q : wC (m vs) env1 Q E) : wr ((frzs as env).bind fun p2 => (m (((x :: p2.1) ++ dfs).map .d)).bind (outD p2.2)) Q E := by
  subst he; rw [h]; exact wC_wr q
def wN (r : Option FR) (env : Sl) (Q : QE) (E : QX) : Prop := wF r (fun u o => ∃ c' rest, u = .d .non ∧ o = .own true c' :: rest ∧ Q (.own c') env) (fun x o => ∃ c' rest, o = .own true c' :: rest ∧ E x env)
theorem w_new (h : wA fs env (fun as e1 => wr ((frzs as e1).bind fun p => (m (.own true (.ins c [] []) :: (p.1 ++ dfs).map .d)).bind (outN p.2)) Q E) E) : wE (newE c m dfs fs) env Q E := wr_bindA h
theorem w_new1 (h : frzs as env = some (xs, env1)) (he : (xs ++ dfs).map SV.d = vs) (q : wN (m (.own true (.ins c [] []) :: vs)) env1 Q E) : wr ((frzs as env).bind fun p => (m (.own true (.ins c [] []) :: (p.1 ++ dfs).map .d)).bind (outN p.2)) Q E := by
  subst he
  rw [h, Option.bind_some]
  unfold wN at q
  cases hr : m (.own true (.ins c [] []) :: (xs ++ dfs).map .d) with
  | none => rw [hr] at q; exact q.elim
  | some r =>
    rw [hr] at q
    cases r with
    | ok u o =>
      obtain ⟨c', rest, rfl, rfl, q⟩ := q
      exact q
    | ex x o =>
      obtain ⟨c', rest, rfl, q⟩ := q
      exact q
def wFd (f : Str) (j : Nat) (u : RV) (e : Sl) (N : Sl → Prop) : Prop := ∃ d e2 b c ns xs ns' xs' e3, frz u e = some (d, e2) ∧ e2[j]? = some (.own b (.ins c ns xs)) ∧ ns.length < 900 ∧ putFn f ns = ns' ∧ putFv f d ns xs = xs' ∧ e2.set j (.own b (.ins c ns' xs')) = e3 ∧ N e3
theorem w_fd {b : Bool} {ns ns' : List Str} {xs' : List D} {N : Sl → Prop} (h1 : frz a env = some (x, env1)) (h2 : env1[j]? = some (.own b (.ins c ns xs))) (h3 : ns.length < 900) (h4 : putFn f ns = ns') (h5 : putFv f x ns xs = xs') (h6 : env1.set j (.own b (.ins c ns' xs')) = env2) (q : N env2) : wFd f j a env N :=
  ⟨x, env1, b, c, ns, xs, ns', xs', env2, h1, h2, h3, h4, h5, h6, q⟩
theorem w_setF (h : wE fe env (fun u e1 => wFd f j u e1 N) E) : wS (setF f j fe) env N ⟨R, B, Ct, E⟩ := wrs_bind (wr_mono h (fun u e1 h => by
  obtain ⟨d, e2, b, c, ns, xs, ns', xs', e3, h1, h2, h3, rfl, rfl, rfl, q⟩ := h
  rw [h1, Option.bind_some]
  dsimp only
  rw [h2]
  show wrs (if ns.length < 900 then some (Out.nx (e2.set j (.own b (.ins c (putFn f ns) (putFv f d ns xs))))) else none) _ _
  rw [if_pos h3]
  exact q) fun _ _ h => h)
theorem pfn_nil : putFn f [] = [f] := rfl
theorem pfn_ne {n : Str} {ns ns' : List Str} (h : ¬ n = f) (q : putFn f ns = ns') : putFn f (n :: ns) = n :: ns' := by subst q; exact if_neg h
theorem pfv_nil : putFv f y [] xs = [y] := by cases xs <;> rfl
theorem pfv_ne {n : Str} {ns : List Str} {xs' : List D} (h : ¬ n = f) (q : putFv f y ns xs = xs') : putFv f y (n :: ns) (x :: xs) = x :: xs' := by subst q; exact if_neg h
abbrev QC := C → Sl → Prop
def wBd (r : Option (C × Sl)) (P : QC) : Prop := ∃ acc e, r = some (acc, e) ∧ P acc e
theorem w_cmpN {em : EmD} {a0 : C} {c0 : DCl} {cs : List DCl} (h : wI c0.fi env (fun xs e1 => wBd (turnsN c0 (clsN em cs) xs (clr c0.vs e1) a0) (fun acc e2 => Q (.own acc) (rst c0.vs e1 e2))) E) : wE (cmpN em a0 c0 cs) env Q E := by
  show wr (cmpN em a0 c0 cs env) Q E
  unfold cmpN
  unfold wI at h
  cases hf : c0.fi env with
  | none => rw [hf] at h; exact h.elim
  | some r => rw [hf] at h; cases r with
    | ok xs e1 =>
      obtain ⟨acc, e2, h1, h2⟩ := h
      dsimp only
      rw [h1]
      exact h2
    | ex x e => exact h
theorem wBd_c {em : EmD} {c : DCl} {cs : List DCl} {acc : C} {P : QC} (h : wI c.fi env (fun xs e1 => wBd (turnsN c (clsN em cs) xs (clr c.vs e1) acc) P) nE) : wBd (clsN em (c :: cs) env acc) P := by
  show wBd (match c.fi env with
    | some (.ok xs env1) => turnsN c (clsN em cs) xs (clr c.vs env1) acc
    | _ => none) P
  unfold wI at h
  cases hf : c.fi env with
  | none => rw [hf] at h; exact h.elim
  | some r => rw [hf] at h; cases r with
    | ok xs e1 => exact h
    | ex x e => exact h.elim
theorem wBd_0 {em : EmD} {acc : C} {P : QC} (h : wBd (em env acc) P) : wBd (clsN em [] env acc) P := h
theorem wBd_u {ks vs : List D} {P : QC} (hl : ks.length < 100000) (h : wE fk env (fun u e2 => ∃ k, u = .d k ∧ okKU k = true ∧ wE fv e2 (fun v e3 => ∃ y e4, frz v e3 = some (y, e4) ∧ P (.dcu (putUk ks k) (putUv ks vs k y)) e4) nE) nE) : wBd (emU fk fv env (.dcu ks vs)) P := by
  obtain ⟨u, e2, h1, k, rfl, hk, h⟩ := wE_get h
  obtain ⟨v, e3, h2, y, e4, h3, h4⟩ := wE_get h
  refine ⟨_, _, ?_, h4⟩
  unfold emU
  rw [h1]
  dsimp only
  unfold eltD
  rw [h2]
  dsimp only
  rw [h3, Option.bind_some, if_pos ⟨hk, hl⟩]
/-- one turn: from the slots e0 back to e0 -/
def wTn (c : DCl) (body : EmD) (x : D) (e0 : Sl) (acc : C) (P : C → Prop) : Prop := ∃ e1, putT c.tg x e0 = some e1 ∧ wBd (testN c.ft e1 fun b e2 => match b with
  | true => (body e2 acc).map fun p => (p.1, clr c.vs p.2)
  | false => some (acc, clr c.vs e2)) (fun acc' e => e = e0 ∧ P acc')
theorem wBd_map {r : Option (C × Sl)} {P : QC} {vs : List Nat} (h : wBd r (fun a e => P a (clr vs e))) : wBd (r.map fun p => (p.1, clr vs p.2)) P := by
  obtain ⟨a, e, h1, h2⟩ := h
  exact ⟨a, _, by rw [h1]; rfl, h2⟩
theorem wT_n {fi : SI} {tg : Tg} {vs : List Nat} {body : EmD} {acc : C} {P : C → Prop} (h1 : putT tg x e0 = some env1) (h : wBd (body env1 acc) (fun acc' e2 => clr vs e2 = e0 ∧ P acc')) : wTn ⟨fi, tg, none, vs⟩ body x e0 acc P :=
  ⟨env1, h1, wBd_map h⟩
theorem testN_bind {ft : Option SE} {e : Sl} {k : Bool → Sl → Option (C × Sl)} {g : C × Sl → Option (C × Sl)} : (testN ft e k).bind g = testN ft e fun b e2 => (k b e2).bind g := by
  unfold testN
  cases ft with
  | none => rfl
  | some f =>
    dsimp only
    cases f e with
    | none => rfl
    | some r => cases r with
      | ex x e => rfl
      | ok a e2 =>
        dsimp only
        cases tru a e2 <;> rfl
theorem turns_cons {c : DCl} {body : EmD} {acc acc' : C} (h : ∃ e1, putT c.tg x e0 = some e1 ∧ (testN c.ft e1 fun b e2 => match b with
  | true => (body e2 acc).map fun p => (p.1, clr c.vs p.2)
  | false => some (acc, clr c.vs e2)) = some (acc', env1)) : turnsN c body (x :: xs) e0 acc = turnsN c body xs env1 acc' := by
  obtain ⟨e1, h1, h2⟩ := h
  show (putT c.tg x e0).bind _ = _
  rw [h1, Option.bind_some]
  have := congrArg (fun r => Option.bind r fun p => turnsN c body xs p.2 p.1) h2
  simp only [Option.bind_some] at this
  rw [testN_bind] at this
  rw [← this]
  congr 1
  funext b e2
  cases b with
  | true =>
    dsimp only
    cases body e2 acc <;> rfl
  | false => rfl
theorem w_turns {α : Type} {d : α → D} {l : List α} {c : DCl} {body : EmD} {acc : C} {P : QC} (I : List α → C → Prop) (h0 : I [] acc) (hs : ∀ pre x suf acc, l = pre ++ x :: suf → I pre acc → wTn c body (d x) e0 acc (I (pre ++ [x]))) (hn : ∀ acc, I l acc → P acc e0) : wBd (turnsN c body (l.map d) e0 acc) P := by
  have go : ∀ (suf pre : List α) acc, l = pre ++ suf → I pre acc → wBd (turnsN c body (suf.map d) e0 acc) P := by
    intro suf
    induction suf with
    | nil =>
      intro pre acc h1 h2
      rw [List.append_nil] at h1
      subst h1
      exact ⟨acc, e0, rfl, hn _ h2⟩
    | cons x suf ih =>
      intro pre acc h1 h2
      obtain ⟨e1, g1, acc', e, g2, rfl, g3⟩ := hs pre x suf acc h1 h2
      rw [List.map_cons, turns_cons ⟨e1, g1, g2⟩]
      exact ih (pre ++ [x]) acc' (by rw [h1, List.append_assoc]; rfl) g3
  exact go l [] acc rfl h0
theorem pk_ownI {ns : List Str} {xs : List D} : pk (.own (.ins c ns xs)) env = some (.ins c ns xs) := rfl
theorem pk_cvI {ns : List Str} {xs : List D} {t : Bool} (h : env[i]? = some (.own t (.ins c ns xs))) : pk (.cv i) env = some (.ins c ns xs) := by unfold pk; dsimp only; rw [h]; rfl
theorem frz_ownI {ns : List Str} {xs : List D} : frz (.own (.ins c ns xs)) env = some (.ins c ns xs, env) := rfl
theorem frz_cvI {ns : List Str} {xs : List D} (h : env[i]? = some (.own false (.ins c ns xs))) (h2 : env.set i (.d (.ins c ns xs)) = env1) : frz (.cv i) env = some (.ins c ns xs, env1) := by subst h2; unfold frz; dsimp only; rw [h]; rfl
theorem frz_ownU {ks vs : List D} : frz (.own (.dcu ks vs)) env = some (.dcu ks vs, env) := rfl
theorem frz_cvU {ks vs : List D} (h : env[i]? = some (.own false (.dcu ks vs))) (h2 : env.set i (.d (.dcu ks vs)) = env1) : frz (.cv i) env = some (.dcu ks vs, env1) := by subst h2; unfold frz; dsimp only; rw [h]; rfl
theorem ins_of {ns : List Str} {xs : List D} : insOf c (.ins c ns xs) = true := by
  show (c == c) = true
  exact beq_self_eq_true c
theorem fld_at {ns : List Str} {xs : List D} (h : lookN f ns xs = some x) : fldD f (.ins c ns xs) = some (.d x) := by
  show (lookN f ns xs).map RV.d = _
  rw [h]; rfl
theorem lkN_here {n : Str} {ns : List Str} (h : (f == n) = true) : lookN f (n :: ns) (x :: xs) = some x := if_pos h
theorem lkN_next {n : Str} {ns : List Str} (h : (f == n) = false) (q : lookN f ns xs = some y) : lookN f (n :: ns) (x :: xs) = some y := by
  show (if (f == n) = true then _ else _) = _
  rw [h]; exact q
end
end
end Dw
namespace Dw
end Dw
namespace Dw
noncomputable section
open PySem PySem.Spec PyProof.Rows L2
variable [Glo] [Tabs]
theorem pys_len (xs : List D) : (pys xs).length = xs.length := by
  induction xs with
  | nil => rfl
  | cons x xs ih => rw [pys, List.length_cons, ih, List.length_cons]
end
end Dw
namespace Dw
end Dw
namespace Dw
noncomputable section
open PySem PySem.Spec PyProof.Rows L2
variable [Glo] [Tabs]
def strG : List D → Option RV
  | [.str a] => some (.d (.str a))
  | xs => strC xs
theorem strG_s {a : List Nat} : strG [.str a] = some (.d (.str a)) := rfl
end
end Dw
namespace Dw
noncomputable section
open PySem PySem.Spec PyProof.Rows L2
variable [Glo] [Tabs]
def listH : List D → Option RV
  | [.dct ks _] => some (.own (.lst ks))
  | xs => listG xs
theorem rel_kV {K : PySem.W.Frag} {F : Hp} (k : Key) : Rel K F (kV k) (kD k) := by
  cases k with
  | inl i => exact .int i
  | inr x =>
    show Rel K F (.str x) (.str x.cps.toList)
    have := Rel.str (K := K) (F := F) x.cps.toList
    rwa [mk_of] at this
theorem rel_keys {K : PySem.W.Frag} {F : Hp} : ∀ kvs : List (Key × V), RelAll K F (kvs.map fun kv => kV kv.1) (kvs.map fun e => kD e.1)
  | [] => .nil
  | p :: r => .cons (rel_kV p.1) (rel_keys r)
theorem snd_listH {K : PySem.W.Frag} : SndC K listH (fun xs H Q => (rListC K xs H Q ∨ rListT xs H Q) ∨ rListD xs H Q) := by
  intro W F R σ H env Q xs vs z S h e p
  match xs, h, e with
  | [.dct ks us], h, e =>
    cases e
    obtain ⟨v, rfl, q, kvs, rfl, s, hk, r⟩ := vw1 h
    subst hk
    exact .inr ⟨q, kvs, rfl, s, fun q hq => post_new S p hq (rel_keys kvs)⟩
  | [], h, e => exact .inl (snd_listG S h (xs := []) e p)
  | [.str s], h, e => exact .inl (snd_listG S h (xs := [.str s]) e p)
  | [.non], h, e => exact .inl (snd_listG S h (xs := [.non]) e p)
  | [.bl b], h, e => exact .inl (snd_listG S h (xs := [.bl b]) e p)
  | [.int i], h, e => exact .inl (snd_listG S h (xs := [.int i]) e p)
  | [.lst y], h, e => exact .inl (snd_listG S h (xs := [.lst y]) e p)
  | [.tup y], h, e => exact .inl (snd_listG S h (xs := [.tup y]) e p)
  | [.dcu a b], h, e => exact .inl (snd_listG S h (xs := [.dcu a b]) e p)
  | [.ins a b c], h, e => exact .inl (snd_listG S h (xs := [.ins a b c]) e p)
  | a :: b :: c, h, e => exact .inl (snd_listG S h (xs := a :: b :: c) (by cases a <;> exact e) p)
theorem cr_listH {X : Cx} (hc : X.calm = true) : CallR X (.type "list") (fun xs H Q => (rListC X.K xs H Q ∨ rListT xs H Q) ∨ rListD xs H Q) := Dw.CallR.or (Dw.CallR.or cr_list (cr_listT hc)) (call_list_dK hc)
theorem lh_lst {ds : List D} : listH [.lst ds] = some (.own (.lst ds)) := rfl
theorem lh_tup {ds : List D} : listH [.tup ds] = some (.own (.lst ds)) := rfl
theorem lh_dct {ks us : List D} : listH [.dct ks us] = some (.own (.lst ks)) := rfl
def rvE (fo : SE) : SE := fun env => bindE (fo env) fun a env1 => match a with
  | .cv i => (ownL env1[i]?).map fun o => .ok (.d .non) (env1.set i (.own o.1 (.lst o.2.reverse)))
  | _ => none
section
variable {env env2 : Sl} {fo : SE} {i : Nat} {ys : List D} {Q : QE} {E : QX}
theorem w_rv (h : wE fo env (fun u e1 => wr (match u with
  | .cv i => (ownL e1[i]?).map fun o => Re.ok (.d .non) (e1.set i (.own o.1 (.lst o.2.reverse)))
  | _ => none) Q E) E) : wE (rvE fo) env Q E := wr_bind h
theorem w_rv1 {t : Bool} (h : env[i]? = some (.own t (.lst ys))) (h4 : env.set i (.own t (.lst ys.reverse)) = env2) (q : Q (.d .non) env2) : wr (match RV.cv i with
  | .cv i => (ownL env[i]?).map fun o => Re.ok (.d .non) (env.set i (.own o.1 (.lst o.2.reverse)))
  | _ => none) Q E := by
  subst h4
  dsimp only; rw [h]; exact q
end
end
end Dw
namespace Dw
noncomputable section
open PySem PySem.Spec PyProof.Rows L2
variable [Glo] [Tabs]
open PySem.Sem (wp)
theorem SqB.keep {t : Bool} {h h' : Heap} {l : Addr} {xs : Array Value} (q : SqB t h l xs) (e : ∀ o, h.get? l = some o → h'.get? l = some o) : SqB t h' l xs := by
  cases t
  · exact Heap.IsList.at q e
  · exact Heap.IsTuple.at q e
end
end Dw
namespace Dw
noncomputable section
open PySem PySem.Spec PyProof.Rows L2
variable [Glo] [Tabs]
class VR (P : Prop) (Q : outParam Prop) : Prop where h : Q → P
instance i_w_two {env : Dw.Sl} {f : Dw.D → Dw.D → Option Dw.RV} {fa : Dw.SE} {fb : Dw.SE} {Q : Dw.QE} {E : Dw.QX} : VR (Dw.wE (Dw.two (Dw.op2 f) fa fb) env Q E) (Dw.wE fa env (fun (u : Dw.RV) (e1 : Dw.Sl) ↦ Dw.wE fb e1 (fun (v : Dw.RV) (e2 : Dw.Sl) ↦ Dw.wr (Dw.op2 f u v e2) Q E) E) E) := ⟨fun h => Dw.w_two h⟩
instance i_w_one {env : Dw.Sl} {fa : Dw.SE} {Q : Dw.QE} {E : Dw.QX} {g : Dw.D → Option Dw.RV} : VR (Dw.wE (Dw.oneE g fa) env Q E) (Dw.wE fa env (fun (u : Dw.RV) (e1 : Dw.Sl) ↦ Dw.wr ((Dw.pk u e1).bind fun (x : Dw.D) ↦ Option.map (fun (x : Dw.RV) ↦ Dw.Re.ok x e1) (g x)) Q E) E) := ⟨fun h => Dw.w_one h⟩
instance i_w_not {env : Dw.Sl} {fa : Dw.SE} {Q : Dw.QE} {E : Dw.QX} : VR (Dw.wE (Dw.notE fa) env Q E) (Dw.wE fa env (fun (u : Dw.RV) (e1 : Dw.Sl) ↦ Dw.wr (Option.map (fun (b : Bool) ↦ Dw.Re.ok (Dw.RV.d (Dw.D.bl !b)) e1) (Dw.tru u e1)) Q E) E) := ⟨fun h => Dw.w_not h⟩
instance i_w_and {env : Dw.Sl} {fa : Dw.SE} {fb : Dw.SE} {Q : Dw.QE} {E : Dw.QX} : VR (Dw.wE (Dw.andE fa fb) env Q E) (Dw.wE fa env (fun (u : Dw.RV) (e1 : Dw.Sl) ↦ Dw.wB u e1 (Dw.wE fb e1 Q E) (Q u e1)) E) := ⟨fun h => Dw.w_and h⟩
instance i_w_or {env : Dw.Sl} {fa : Dw.SE} {fb : Dw.SE} {Q : Dw.QE} {E : Dw.QX} : VR (Dw.wE (Dw.orE fa fb) env Q E) (Dw.wE fa env (fun (u : Dw.RV) (e1 : Dw.Sl) ↦ Dw.wB u e1 (Q u e1) (Dw.wE fb e1 Q E)) E) := ⟨fun h => Dw.w_or h⟩
instance i_w_ife {env : Dw.Sl} {fa : Dw.SE} {fb : Dw.SE} {fc : Dw.SE} {Q : Dw.QE} {E : Dw.QX} : VR (Dw.wE (Dw.ifE fc fa fb) env Q E) (Dw.wE fc env (fun (u : Dw.RV) (e1 : Dw.Sl) ↦ Dw.wB u e1 (Dw.wE fa e1 Q E) (Dw.wE fb e1 Q E)) E) := ⟨fun h => Dw.w_ife h⟩
instance i_w_nil {env : Dw.Sl} {E : Dw.QX} {QA : List Dw.RV → Dw.Sl → Prop} : VR (Dw.wA Dw.nilA env QA E) (QA [] env) := ⟨fun h => Dw.w_nil h⟩
instance i_w_cons {env : Dw.Sl} {fa : Dw.SE} {fs : Dw.SA} {E : Dw.QX} {QA : List Dw.RV → Dw.Sl → Prop} : VR (Dw.wA (Dw.consA fa fs) env QA E) (Dw.wE fa env (fun (u : Dw.RV) (e1 : Dw.Sl) ↦ Dw.wA fs e1 (fun (as : List Dw.RV) (e2 : Dw.Sl) ↦ QA (u :: as) e2) E) E) := ⟨fun h => Dw.w_cons h⟩
instance i_w_callE {env : Dw.Sl} {fs : Dw.SA} {Q : Dw.QE} {E : Dw.QX} {g : List Dw.D → Option Dw.RV} : VR (Dw.wE (Dw.callE g fs) env Q E) (Dw.wA fs env (fun (as : List Dw.RV) (e1 : Dw.Sl) ↦ Dw.wr ((Dw.pks as e1).bind fun (xs : List Dw.D) ↦ Option.map (fun (x : Dw.RV) ↦ Dw.Re.ok x e1) (g xs)) Q E) E) := ⟨fun h => Dw.w_callE h⟩
instance i_w_isi {env : Dw.Sl} {fa : Dw.SE} {Q : Dw.QE} {E : Dw.QX} {n : String} : VR (Dw.wE (Dw.isiE n fa) env Q E) (Dw.wE fa env (fun (u : Dw.RV) (e1 : Dw.Sl) ↦ Dw.wr ((Dw.pk u e1).bind fun (x : Dw.D) ↦ if Dw.okI x = Bool.true then Option.some (Dw.Re.ok (Dw.RV.d (Dw.D.bl (Dw.isiD n x))) e1) else Option.none) Q E) E) := ⟨fun h => Dw.w_isi h⟩
instance i_w_tup {env : Dw.Sl} {fs : Dw.SA} {Q : Dw.QE} {E : Dw.QX} : VR (Dw.wE (Dw.tupE fs) env Q E) (Dw.wA fs env (fun (as : List Dw.RV) (e1 : Dw.Sl) ↦ Dw.wr ((Dw.frzs as e1).bind fun (p : List Dw.D × Dw.Sl) ↦ if p.fst.length ≤ 100000 then Option.some (Dw.Re.ok (Dw.RV.d (Dw.D.tup p.fst)) p.snd) else Option.none) Q E) E) := ⟨fun h => Dw.w_tup h⟩
instance i_w_lst {env : Dw.Sl} {fs : Dw.SA} {Q : Dw.QE} {E : Dw.QX} : VR (Dw.wE (Dw.lstE fs) env Q E) (Dw.wA fs env (fun (as : List Dw.RV) (e1 : Dw.Sl) ↦ Dw.wr ((Dw.frzs as e1).bind fun (p : List Dw.D × Dw.Sl) ↦ if p.fst.length ≤ 100000 then Option.some (Dw.Re.ok (Dw.RV.own (Dw.C.lst p.fst)) p.snd) else Option.none) Q E) E) := ⟨fun h => Dw.w_lst h⟩
instance i_w_met {env : Dw.Sl} {fo : Dw.SE} {fs : Dw.SA} {Q : Dw.QE} {E : Dw.QX} {T : String} {g : Dw.D → List Dw.D → Option Dw.RV} : VR (Dw.wE (Dw.metE T g fo fs) env Q E) (Dw.wE fo env (fun (u : Dw.RV) (e1 : Dw.Sl) ↦ Dw.wr ((Dw.pk u e1).bind fun (x0 : Dw.D) ↦ if Dw.tyD x0 = T then Dw.bindA (fs e1) fun (as : List Dw.RV) (env2 : Dw.Sl) ↦ (Dw.pk u env2).bind fun (x : Dw.D) ↦ (Dw.pks as env2).bind fun (xs : List Dw.D) ↦ Option.map (fun (x : Dw.RV) ↦ Dw.Re.ok x env2) (g x xs) else Option.none) Q E) E) := ⟨fun h => Dw.w_met h⟩
instance i_w_callD {env : Dw.Sl} {fs : Dw.SA} {Q : Dw.QE} {E : Dw.QX} {m : List Dw.SV → Option Dw.FR} {ds : List Dw.D} : VR (Dw.wE (Dw.callD m ds fs) env Q E) (Dw.wA fs env (fun (as : List Dw.RV) (e1 : Dw.Sl) ↦ Dw.wr ((Dw.frzs as e1).bind fun (p : List Dw.D × Dw.Sl) ↦ (m (List.map Dw.SV.d (p.fst ++ ds))).bind (Dw.outD p.snd)) Q E) E) := ⟨fun h => Dw.w_callD h⟩
instance i_w_callD0 {env : Dw.Sl} {Q : Dw.QE} {E : Dw.QX} {m : List Dw.SV → Option Dw.FR} {ds : List Dw.D} : VR (Dw.wE (Dw.callD0 m ds) env Q E) (Dw.wC (m (List.map Dw.SV.d ds)) env Q E) := ⟨fun h => Dw.w_callD0 h⟩
instance i_w_sl {env : Dw.Sl} {fe : Dw.SE} {Q : Dw.QE} {E : Dw.QX} {fl : Option Dw.SE} {fh : Option Dw.SE} : VR (Dw.wE (Dw.sliceE fe fl fh) env Q E) (Dw.wE fe env (fun (u : Dw.RV) (e1 : Dw.Sl) ↦ Dw.wr (Dw.bindO fl e1 fun (lo : Option Int) (env2 : Dw.Sl) ↦ Dw.bindO fh env2 fun (hi : Option Int) (env3 : Dw.Sl) ↦ (Dw.pk u env3).bind fun (x : Dw.D) ↦ Option.map (fun (x : Dw.RV) ↦ Dw.Re.ok x env3) (Dw.cutD x lo hi)) Q E) E) := ⟨fun h => Dw.w_sl h⟩
instance i_w_comp {env : Dw.Sl} {fe : Dw.SE} {Q : Dw.QE} {E : Dw.QX} {vs : List Nat} {fi : Dw.SI} {tg : Dw.Tg} {ft : Option Dw.SE} : VR (Dw.wE (Dw.compE vs fi tg ft fe) env Q E) (Dw.wI fi env (fun (xs : List Dw.D) (e1 : Dw.Sl) ↦ Dw.wr (Option.map (fun (p : List Dw.D × Dw.Sl) ↦ Dw.Re.ok (Dw.RV.own (Dw.C.lst p.fst)) (Dw.rst vs e1 p.snd)) (Dw.compD vs tg ft fe xs [] (Dw.clr vs e1))) Q E) E) := ⟨fun h => Dw.w_comp h⟩
instance i_w_src {env : Dw.Sl} {fe : Dw.SE} {E : Dw.QX} {QI : List Dw.D → Dw.Sl → Prop} : VR (Dw.wI (Dw.srcE fe) env QI E) (Dw.wE fe env (fun (u : Dw.RV) (e1 : Dw.Sl) ↦ Dw.wri ((Dw.frz u e1).bind fun (p : Dw.D × Dw.Sl) ↦ Option.map (fun (xs : List Dw.D) ↦ Dw.ReI.ok xs p.snd) (Dw.itemsD p.fst)) QI E) E) := ⟨fun h => Dw.w_src h⟩
instance i_w_args {env : Dw.Sl} {fs : Dw.SA} {E : Dw.QX} {QI : List Dw.D → Dw.Sl → Prop} {g : List Dw.D → Option (List Dw.D)} : VR (Dw.wI (Dw.argsI g fs) env QI E) (Dw.wA fs env (fun (as : List Dw.RV) (e1 : Dw.Sl) ↦ Dw.wri ((Dw.pks as e1).bind fun (xs : List Dw.D) ↦ Option.map (fun (ys : List Dw.D) ↦ Dw.ReI.ok ys e1) (g xs)) QI E) E) := ⟨fun h => Dw.w_args h⟩
instance i_w_seq {env : Dw.Sl} {f : Dw.SS} {g : Dw.SS} {N : Dw.Sl → Prop} {k : Dw.Ks} : VR (Dw.wS (Dw.seqS f g) env N k) (Dw.wS f env (fun (e : Dw.Sl) ↦ Dw.wS g e N k) k) := ⟨fun h => Dw.w_seq h⟩
instance i_w_skip {env : Dw.Sl} {N : Dw.Sl → Prop} {k : Dw.Ks} : VR (Dw.wS Dw.skipS env N k) (N env) := ⟨fun h => Dw.w_skip h⟩
instance i_w_asg {env : Dw.Sl} {fe : Dw.SE} {i : Nat} {N : Dw.Sl → Prop} {R : Dw.QE} {B : Dw.Sl → Prop} {Ct : Dw.Sl → Prop} {E : Dw.QX} : VR (Dw.wS (Dw.asgS i fe) env N { rt := R, bk := B, ct := Ct, ex := E }) (Dw.wE fe env (fun (u : Dw.RV) (e1 : Dw.Sl) ↦ Dw.wSt i u e1 N) E) := ⟨fun h => Dw.w_asg h⟩
instance i_w_expr {env : Dw.Sl} {fe : Dw.SE} {N : Dw.Sl → Prop} {R : Dw.QE} {B : Dw.Sl → Prop} {Ct : Dw.Sl → Prop} {E : Dw.QX} : VR (Dw.wS (Dw.exprS fe) env N { rt := R, bk := B, ct := Ct, ex := E }) (Dw.wE fe env (fun (x : Dw.RV) (e1 : Dw.Sl) ↦ N e1) E) := ⟨fun h => Dw.w_expr h⟩
instance i_w_ret {env : Dw.Sl} {fe : Dw.SE} {N : Dw.Sl → Prop} {R : Dw.QE} {B : Dw.Sl → Prop} {Ct : Dw.Sl → Prop} {E : Dw.QX} : VR (Dw.wS (Dw.retS fe) env N { rt := R, bk := B, ct := Ct, ex := E }) (Dw.wE fe env R E) := ⟨fun h => Dw.w_ret h⟩
instance i_w_retN {env : Dw.Sl} {N : Dw.Sl → Prop} {R : Dw.QE} {B : Dw.Sl → Prop} {Ct : Dw.Sl → Prop} {E : Dw.QX} : VR (Dw.wS Dw.retNS env N { rt := R, bk := B, ct := Ct, ex := E }) (R (Dw.RV.d Dw.D.non) env) := ⟨fun h => Dw.w_retN h⟩
instance i_w_brk {env : Dw.Sl} {N : Dw.Sl → Prop} {R : Dw.QE} {B : Dw.Sl → Prop} {Ct : Dw.Sl → Prop} {E : Dw.QX} : VR (Dw.wS Dw.breakS env N { rt := R, bk := B, ct := Ct, ex := E }) (B env) := ⟨fun h => Dw.w_brk h⟩
instance i_w_cnt {env : Dw.Sl} {N : Dw.Sl → Prop} {R : Dw.QE} {B : Dw.Sl → Prop} {Ct : Dw.Sl → Prop} {E : Dw.QX} : VR (Dw.wS Dw.contS env N { rt := R, bk := B, ct := Ct, ex := E }) (Ct env) := ⟨fun h => Dw.w_cnt h⟩
instance i_w_ite {env : Dw.Sl} {f : Dw.SS} {g : Dw.SS} {fc : Dw.SE} {N : Dw.Sl → Prop} {R : Dw.QE} {B : Dw.Sl → Prop} {Ct : Dw.Sl → Prop} {E : Dw.QX} : VR (Dw.wS (Dw.iteS fc f g) env N { rt := R, bk := B, ct := Ct, ex := E }) (Dw.wE fc env (fun (u : Dw.RV) (e1 : Dw.Sl) ↦ Dw.wB u e1 (Dw.wS f e1 N { rt := R, bk := B, ct := Ct, ex := E }) (Dw.wS g e1 N { rt := R, bk := B, ct := Ct, ex := E })) E) := ⟨fun h => Dw.w_ite h⟩
instance i_w_for {env : Dw.Sl} {tg : Dw.Tg} {body : Dw.SS} {fi : Dw.SI} {N : Dw.Sl → Prop} {R : Dw.QE} {B : Dw.Sl → Prop} {Ct : Dw.Sl → Prop} {E : Dw.QX} : VR (Dw.wS (Dw.forS fi tg body) env N { rt := R, bk := B, ct := Ct, ex := E }) (Dw.wI fi env (fun (xs : List Dw.D) (e1 : Dw.Sl) ↦ Dw.wS (Dw.loopD tg body xs) e1 N { rt := R, bk := B, ct := Ct, ex := E }) E) := ⟨fun h => Dw.w_for h⟩
instance i_w_setL {env : Dw.Sl} {fe : Dw.SE} {N : Dw.Sl → Prop} {R : Dw.QE} {B : Dw.Sl → Prop} {Ct : Dw.Sl → Prop} {E : Dw.QX} {j : Nat} {fi : Dw.SE} : VR (Dw.wS (Dw.setL j fi fe) env N { rt := R, bk := B, ct := Ct, ex := E }) (Dw.wE fe env (fun (u : Dw.RV) (e1 : Dw.Sl) ↦ ∃ (d : Dw.D), ∃ (e2 : Dw.Sl), ∃ (t : Bool), ∃ (ys : List Dw.D), Dw.frz u e1 = Option.some (d, e2) ∧ e2[j]? = Option.some (Dw.SV.own t (Dw.C.lst ys)) ∧ Dw.wE fi e2 (fun (v : Dw.RV) (e3 : Dw.Sl) ↦ ∃ (n : Int), ∃ (m : Nat), ∃ (t' : Bool), ∃ (ys' : List Dw.D), ∃ (e4 : List Dw.SV), Dw.pk v e3 = Option.some (Dw.D.int n) ∧ e3[j]? = Option.some (Dw.SV.own t' (Dw.C.lst ys')) ∧ L2.ixN ys'.length n = Option.some m ∧ List.set e3 j (Dw.SV.own t' (Dw.C.lst (ys'.set m d))) = e4 ∧ N e4) E) E) := ⟨fun h => Dw.w_setL h⟩
instance i_w_asgT {env : Dw.Sl} {fe : Dw.SE} {tg : Dw.Tg} {N : Dw.Sl → Prop} {R : Dw.QE} {B : Dw.Sl → Prop} {Ct : Dw.Sl → Prop} {E : Dw.QX} : VR (Dw.wS (Dw.asgT tg fe) env N { rt := R, bk := B, ct := Ct, ex := E }) (Dw.wE fe env (fun (u : Dw.RV) (e1 : Dw.Sl) ↦ Dw.wTu tg u e1 N) E) := ⟨fun h => Dw.w_asgT h⟩
instance i_w_star {env : Dw.Sl} {fa : Dw.SE} {fr : Dw.SA} {E : Dw.QX} {QA : List Dw.RV → Dw.Sl → Prop} : VR (Dw.wA (Dw.starA fa fr) env QA E) (Dw.wE fa env (fun (a : Dw.RV) (e1 : Dw.Sl) ↦ Dw.wStar a e1 fun (xs : List Dw.D) ↦ Dw.wA fr e1 (fun (as : List Dw.RV) (e2 : Dw.Sl) ↦ QA (List.map Dw.RV.d xs ++ as) e2) E) E) := ⟨fun h => Dw.w_star h⟩
instance i_w_prop {env : Dw.Sl} {fe : Dw.SE} {Q : Dw.QE} {E : Dw.QX} {c : PySem.Str} {m : List Dw.SV → Option Dw.FR} : VR (Dw.wE (Dw.propE c m fe) env Q E) (Dw.wE fe env (fun (u : Dw.RV) (e1 : Dw.Sl) ↦ Dw.wr ((Dw.frz u e1).bind fun (p : Dw.D × Dw.Sl) ↦ if Dw.insOf c p.fst = Bool.true then (m [Dw.SV.d p.fst]).bind (Dw.outD p.snd) else Option.none) Q E) E) := ⟨fun h => Dw.w_prop h⟩
instance i_w_meth {env : Dw.Sl} {fo : Dw.SE} {fs : Dw.SA} {Q : Dw.QE} {E : Dw.QX} {c : PySem.Str} {nm : PySem.Str} {m : List Dw.SV → Option Dw.FR} {dfs : List Dw.D} : VR (Dw.wE (Dw.methE c nm m dfs fo fs) env Q E) (Dw.wE fo env (fun (u : Dw.RV) (e1 : Dw.Sl) ↦ Dw.wr ((Dw.frz u e1).bind fun (p : Dw.D × Dw.Sl) ↦ if Dw.insNo c nm p.fst = Bool.true then Dw.bindA (fs p.snd) fun (as : List Dw.RV) (env2 : Dw.Sl) ↦ (Dw.frzs as env2).bind fun (p2 : List Dw.D × Dw.Sl) ↦ (m (List.map Dw.SV.d (p.fst :: p2.fst ++ dfs))).bind (Dw.outD p2.snd) else Option.none) Q E) E) := ⟨fun h => Dw.w_meth h⟩
instance i_w_new {env : Dw.Sl} {fs : Dw.SA} {Q : Dw.QE} {E : Dw.QX} {c : PySem.Str} {m : List Dw.SV → Option Dw.FR} {dfs : List Dw.D} : VR (Dw.wE (Dw.newE c m dfs fs) env Q E) (Dw.wA fs env (fun (as : List Dw.RV) (e1 : Dw.Sl) ↦ Dw.wr ((Dw.frzs as e1).bind fun (p : List Dw.D × Dw.Sl) ↦ (m (Dw.SV.own Bool.true (Dw.C.ins c [] []) :: List.map Dw.SV.d (p.fst ++ dfs))).bind (Dw.outN p.snd)) Q E) E) := ⟨fun h => Dw.w_new h⟩
instance i_w_setF {env : Dw.Sl} {j : Nat} {fe : Dw.SE} {E : Dw.QX} {R : Dw.QE} {B : Dw.Sl → Prop} {Ct : Dw.Sl → Prop} {N : Dw.Sl → Prop} {f : PySem.Str} : VR (Dw.wS (Dw.setF f j fe) env N { rt := R, bk := B, ct := Ct, ex := E }) (Dw.wE fe env (fun (u : Dw.RV) (e1 : Dw.Sl) ↦ Dw.wFd f j u e1 N) E) := ⟨fun h => Dw.w_setF h⟩
instance i_w_cmpN {env : Dw.Sl} {Q : Dw.QE} {E : Dw.QX} {em : Dw.EmD} {a0 : Dw.C} {c0 : Dw.DCl} {cs : List Dw.DCl} : VR (Dw.wE (Dw.cmpN em a0 c0 cs) env Q E) (Dw.wI c0.fi env (fun (xs : List Dw.D) (e1 : Dw.Sl) ↦ Dw.wBd (Dw.turnsN c0 (Dw.clsN em cs) xs (Dw.clr c0.vs e1) a0) fun (acc : Dw.C) (e2 : Dw.Sl) ↦ Q (Dw.RV.own acc) (Dw.rst c0.vs e1 e2)) E) := ⟨fun h => Dw.w_cmpN h⟩
instance i_w_const {env : Dw.Sl} {x : Dw.D} {Q : Dw.QE} {E : Dw.QX} : VR (Dw.wE (Dw.constE x) env Q E) (Q (Dw.RV.d x) env) := ⟨fun h => Dw.w_const h⟩
instance i_w_lenSet {fe : Dw.SE} {env : Dw.Sl} {Q : Dw.QE} {E : Dw.QX} : VR (Dw.wE (Dw.lenSetE fe) env Q E) (Dw.wE fe env (fun (u : Dw.RV) (e1 : Dw.Sl) ↦ Dw.wr (Option.map (fun (n : Nat) ↦ Dw.Re.ok (Dw.RV.d (Dw.D.int ↑n)) e1) ((Dw.pk u e1).bind Dw.setLenD)) Q E) E) := ⟨fun h => Dw.w_lenSet h⟩
class EvR {α : Type} (o : Option α) (z : outParam α) : Prop where h : o = some z
class SetR {α : Type} (e : List α) (i : Nat) (v : α) (e' : outParam (List α)) : Prop where h : e.set i v = e'
class MapR (xs ds : List D) (vs : outParam (List SV)) : Prop where h : (xs ++ ds).map SV.d = vs
class RepR (as : List SV) (n : Nat) (l : outParam (List SV)) : Prop where h : as ++ List.replicate n SV.un = l
class FreeR (s : SV) : Prop where h : freeSlot (some s) = true
instance e_add_int' {i : Int} {j : Int} : EvR (Dw.addD (Dw.D.int i) (Dw.D.int j)) (Dw.RV.d (Dw.D.int (i + j))) := ⟨Dw.add_int'⟩
instance e_cut_lst {xs : List Dw.D} {lo : Option Int} {hi : Option Int} : EvR (Dw.cutD (Dw.D.lst xs) lo hi) (Dw.RV.own (Dw.C.lst (Dw.cutL xs lo hi))) := ⟨Dw.cut_lst⟩
instance e_cut_tup {xs : List Dw.D} {lo : Option Int} {hi : Option Int} : EvR (Dw.cutD (Dw.D.tup xs) lo hi) (Dw.RV.d (Dw.D.tup (Dw.cutL xs lo hi))) := ⟨Dw.cut_tup⟩
instance e_eq_bl {a : Bool} {b : Bool} : EvR (Dw.eqD (Dw.D.bl a) (Dw.D.bl b)) (Dw.RV.d (Dw.D.bl (a == b))) := ⟨Dw.eq_bl⟩
instance e_eq_int {i : Int} {j : Int} : EvR (Dw.eqD (Dw.D.int i) (Dw.D.int j)) (Dw.RV.d (Dw.D.bl (i == j))) := ⟨Dw.eq_int⟩
instance e_eq_str {x : List Nat} {y : List Nat} : EvR (Dw.eqD (Dw.D.str x) (Dw.D.str y)) (Dw.RV.d (Dw.D.bl (x == y))) := ⟨Dw.eq_str⟩
instance e_frz_d {env : Dw.Sl} {x : Dw.D} : EvR (Dw.frz (Dw.RV.d x) env) ((x, env)) := ⟨Dw.frz_d⟩
instance e_frz_own {env : Dw.Sl} {xs : List Dw.D} : EvR (Dw.frz (Dw.RV.own (Dw.C.lst xs)) env) ((Dw.D.lst xs, env)) := ⟨Dw.frz_own⟩
instance e_frz_ownI {env : Dw.Sl} {c : PySem.Str} {ns : List PySem.Str} {xs : List Dw.D} : EvR (Dw.frz (Dw.RV.own (Dw.C.ins c ns xs)) env) ((Dw.D.ins c ns xs, env)) := ⟨Dw.frz_ownI⟩
instance e_frz_ownK {env : Dw.Sl} {ks : List Dw.D} {vs : List Dw.D} : EvR (Dw.frz (Dw.RV.own (Dw.C.dct ks vs)) env) ((Dw.D.dct ks vs, env)) := ⟨Dw.frz_ownK⟩
instance e_frz_ownU {env : Dw.Sl} {ks : List Dw.D} {vs : List Dw.D} : EvR (Dw.frz (Dw.RV.own (Dw.C.dcu ks vs)) env) ((Dw.D.dcu ks vs, env)) := ⟨Dw.frz_ownU⟩
instance e_frzs_nil {env : Dw.Sl} : EvR (Dw.frzs [] env) (([], env)) := ⟨Dw.frzs_nil⟩
instance e_ge_int' {i : Int} {j : Int} : EvR (Dw.geD (Dw.D.int i) (Dw.D.int j)) (Dw.RV.d (Dw.D.bl (Decidable.decide (j ≤ i)))) := ⟨Dw.ge_int'⟩
instance e_gt_int' {i : Int} {j : Int} : EvR (Dw.gtD (Dw.D.int i) (Dw.D.int j)) (Dw.RV.d (Dw.D.bl (Decidable.decide (j < i)))) := ⟨Dw.gt_int'⟩
instance e_int_bl {a : Bool} : EvR (Dw.intC [Dw.D.bl a]) (Dw.RV.d (Dw.D.int (PyProof.Rows.b2i a))) := ⟨Dw.int_bl⟩
instance e_int_int {i : Int} : EvR (Dw.intC [Dw.D.int i]) (Dw.RV.d (Dw.D.int i)) := ⟨Dw.int_int⟩
instance e_it_lst {ds : List Dw.D} : EvR (Dw.itemsD (Dw.D.lst ds)) (ds) := ⟨Dw.it_lst⟩
instance e_it_str {x : List Nat} : EvR (Dw.itemsD (Dw.D.str x)) (List.map (fun (c : Nat) ↦ Dw.D.str [c]) x) := ⟨Dw.it_str⟩
instance e_it_tup {ds : List Dw.D} : EvR (Dw.itemsD (Dw.D.tup ds)) (ds) := ⟨Dw.it_tup⟩
instance e_le_int' {i : Int} {j : Int} : EvR (Dw.leD (Dw.D.int i) (Dw.D.int j)) (Dw.RV.d (Dw.D.bl (Decidable.decide (i ≤ j)))) := ⟨Dw.le_int'⟩
instance e_len_lst {x : List Dw.D} : EvR (Dw.lenD [Dw.D.lst x]) (Dw.RV.d (Dw.D.int ↑x.length)) := ⟨Dw.len_lst⟩
instance e_len_tup {x : List Dw.D} : EvR (Dw.lenD [Dw.D.tup x]) (Dw.RV.d (Dw.D.int ↑x.length)) := ⟨Dw.len_tup⟩
instance e_lg_lst {ds : List Dw.D} : EvR (Dw.listG [Dw.D.lst ds]) (Dw.RV.own (Dw.C.lst ds)) := ⟨Dw.lg_lst⟩
instance e_lg_tup {ds : List Dw.D} : EvR (Dw.listG [Dw.D.tup ds]) (Dw.RV.own (Dw.C.lst ds)) := ⟨Dw.lg_tup⟩
instance e_lh_dct {ks : List Dw.D} {us : List Dw.D} : EvR (Dw.listH [Dw.D.dct ks us]) (Dw.RV.own (Dw.C.lst ks)) := ⟨Dw.lh_dct⟩
instance e_lh_lst {ds : List Dw.D} : EvR (Dw.listH [Dw.D.lst ds]) (Dw.RV.own (Dw.C.lst ds)) := ⟨Dw.lh_lst⟩
instance e_lh_tup {ds : List Dw.D} : EvR (Dw.listH [Dw.D.tup ds]) (Dw.RV.own (Dw.C.lst ds)) := ⟨Dw.lh_tup⟩
instance e_look_place {x : PySem.Str} {d : Dw.D} : EvR (List.lookup (PySem.Str.ofString "place") (Dw.xnOf x d).fs) (d) := ⟨Dw.look_place⟩
instance e_look_word {x : PySem.Str} {d : Dw.D} : EvR (List.lookup (PySem.Str.ofString "word") (Dw.xnOf x d).fs) (Dw.D.str x.cps.toList) := ⟨Dw.look_word⟩
instance e_lt_int' {i : Int} {j : Int} : EvR (Dw.ltG (Dw.D.int i) (Dw.D.int j)) (Dw.RV.d (Dw.D.bl (Decidable.decide (i < j)))) := ⟨Dw.lt_int'⟩
instance e_lt_str' {x : List Nat} {y : List Nat} : EvR (Dw.ltG (Dw.D.str x) (Dw.D.str y)) (Dw.RV.d (Dw.D.bl (Decidable.decide (x < y)))) := ⟨Dw.lt_str'⟩
instance e_ne_bl {a : Bool} {b : Bool} : EvR (Dw.neD (Dw.D.bl a) (Dw.D.bl b)) (Dw.RV.d (Dw.D.bl !a == b)) := ⟨Dw.ne_bl⟩
instance e_ne_int {i : Int} {j : Int} : EvR (Dw.neD (Dw.D.int i) (Dw.D.int j)) (Dw.RV.d (Dw.D.bl !i == j)) := ⟨Dw.ne_int⟩
instance e_ne_str {x : List Nat} {y : List Nat} : EvR (Dw.neD (Dw.D.str x) (Dw.D.str y)) (Dw.RV.d (Dw.D.bl !x == y)) := ⟨Dw.ne_str⟩
instance e_neg_int' {i : Int} : EvR (Dw.negD (Dw.D.int i)) (Dw.RV.d (Dw.D.int (-i))) := ⟨Dw.neg_int'⟩
instance e_ord_str {c : Nat} : EvR (Dw.ordC [Dw.D.str [c]]) (Dw.RV.d (Dw.D.int ↑c)) := ⟨Dw.ord_str⟩
instance e_pk_d {env : Dw.Sl} {x : Dw.D} : EvR (Dw.pk (Dw.RV.d x) env) (x) := ⟨Dw.pk_d⟩
instance e_pk_own {env : Dw.Sl} {xs : List Dw.D} : EvR (Dw.pk (Dw.RV.own (Dw.C.lst xs)) env) (Dw.D.lst xs) := ⟨Dw.pk_own⟩
instance e_pk_ownI {env : Dw.Sl} {c : PySem.Str} {ns : List PySem.Str} {xs : List Dw.D} : EvR (Dw.pk (Dw.RV.own (Dw.C.ins c ns xs)) env) (Dw.D.ins c ns xs) := ⟨Dw.pk_ownI⟩
instance e_pk_ownK {env : Dw.Sl} {ks : List Dw.D} {vs : List Dw.D} : EvR (Dw.pk (Dw.RV.own (Dw.C.dct ks vs)) env) (Dw.D.dct ks vs) := ⟨Dw.pk_ownK⟩
instance e_pks_nil {env : Dw.Sl} : EvR (Dw.pks [] env) ([]) := ⟨Dw.pks_nil⟩
instance e_put_tnil {e : Dw.Sl} : EvR (Dw.putT Dw.Tg.nil (Dw.D.tup []) e) (e) := ⟨Dw.put_tnil⟩
instance e_res_d {x : Dw.D} {e : Dw.Sl} : EvR (Dw.resV (Dw.RV.d x) e) (Dw.RV.d x) := ⟨Dw.res_d⟩
instance e_res_own {c : Dw.C} {e : Dw.Sl} : EvR (Dw.resV (Dw.RV.own c) e) (Dw.RV.own c) := ⟨Dw.res_own⟩
instance e_ret_d {x : Dw.D} : EvR (Dw.retV (Dw.RV.d x)) (Dw.RV.d x) := ⟨Dw.ret_d⟩
instance e_ret_own {c : Dw.C} : EvR (Dw.retV (Dw.RV.own c)) (Dw.RV.own c) := ⟨Dw.ret_own⟩
instance e_st_lst {xs : List Dw.D} : EvR (Dw.starL (Dw.D.lst xs)) (xs) := ⟨Dw.st_lst⟩
instance e_st_tup {xs : List Dw.D} : EvR (Dw.starL (Dw.D.tup xs)) (xs) := ⟨Dw.st_tup⟩
instance e_strG_s {a : List Nat} : EvR (Dw.strG [Dw.D.str a]) (Dw.RV.d (Dw.D.str a)) := ⟨Dw.strG_s⟩
instance e_sub_int' {i : Int} {j : Int} : EvR (Dw.subD (Dw.D.int i) (Dw.D.int j)) (Dw.RV.d (Dw.D.int (i - j))) := ⟨Dw.sub_int'⟩
instance e_tru_bl {env : Dw.Sl} {t : Bool} : EvR (Dw.tru (Dw.RV.d (Dw.D.bl t)) env) (t) := ⟨Dw.tru_bl⟩
instance e_tru_int {i : Int} {e : Dw.Sl} : EvR (Dw.tru (Dw.RV.d (Dw.D.int i)) e) (i != 0) := ⟨Dw.tru_int⟩
instance e_tru_lst {x : List Dw.D} {e : Dw.Sl} : EvR (Dw.tru (Dw.RV.d (Dw.D.lst x)) e) (!x.isEmpty) := ⟨Dw.tru_lst⟩
instance e_tru_non {e : Dw.Sl} : EvR (Dw.tru (Dw.RV.d Dw.D.non) e) (Bool.false) := ⟨Dw.tru_non⟩
instance e_tru_ownl {x : List Dw.D} {e : Dw.Sl} : EvR (Dw.tru (Dw.RV.own (Dw.C.lst x)) e) (!x.isEmpty) := ⟨Dw.tru_ownl⟩
instance e_tru_tup {x : List Dw.D} {e : Dw.Sl} : EvR (Dw.tru (Dw.RV.d (Dw.D.tup x)) e) (!x.isEmpty) := ⟨Dw.tru_tup⟩
instance e_tup_lst {ds : List Dw.D} : EvR (Dw.tupleC [Dw.D.lst ds]) (Dw.RV.d (Dw.D.tup ds)) := ⟨Dw.tup_lst⟩
instance e_tup_tup {ds : List Dw.D} : EvR (Dw.tupleC [Dw.D.tup ds]) (Dw.RV.d (Dw.D.tup ds)) := ⟨Dw.tup_tup⟩
section
variable {α : Type} {s t : α} {e e' : List α} {n : Nat}
instance at_z : EvR ((s :: e)[0]?) s := ⟨rfl⟩
instance at_s [h : EvR (e[n]?) s] : EvR ((t :: e)[n + 1]?) s := ⟨by rw [List.getElem?_cons_succ]; exact h.h⟩
instance sr_z : SetR (s :: e) 0 t (t :: e) := ⟨rfl⟩
instance sr_s [h : SetR e n t e'] : SetR (s :: e) (n + 1) t (s :: e') := ⟨setg_s h.h⟩
end
section
variable {env env1 env2 e o : Sl} {a b : RV} {x y : D} {i : Nat} {xs ys ds ks vs : List D} {as : List RV} {c : C} {t : Bool} {s : SV} {ns : List Str} {w : Str} {n : Nat} {g gs : Tg} {vv l : List SV}
instance fr_u : FreeR .un := ⟨rfl⟩
instance fr_d : FreeR (.d x) := ⟨rfl⟩
instance fr_o : FreeR (.own false c) := ⟨rfl⟩
instance mp_n : MapR [] [] [] := ⟨rfl⟩
instance mp_c [h : MapR xs ds vv] : MapR (x :: xs) ds (.d x :: vv) := ⟨mapd_c h.h⟩
instance mp_d [h : MapR [] ds vv] : MapR [] (x :: ds) (.d x :: vv) := ⟨mapd_d h.h⟩
instance rpp_z : RepR [] 0 [] := ⟨rfl⟩
instance rpp_c [h : RepR vv n l] : RepR (s :: vv) n (s :: l) := ⟨rp_c h.h⟩
instance rpp_s [h : RepR [] n l] : RepR [] (n + 1) (.un :: l) := ⟨rp_s h.h⟩
instance pk_c1 [h : EvR env[i]? (.own t (.lst xs))] : EvR (pk (.cv i) env) (.lst xs) := ⟨pk_cv h.h⟩
instance pk_c2 [h : EvR env[i]? (.own t (.ins w ns xs))] : EvR (pk (.cv i) env) (.ins w ns xs) := ⟨pk_cvI h.h⟩
instance pk_c3 [h : EvR env[i]? (.own t (.dct ks vs))] : EvR (pk (.cv i) env) (.dct ks vs) := ⟨pk_cvK h.h⟩
instance pks_c [h1 : EvR (pk a env) x] [h2 : EvR (pks as env) xs] : EvR (pks (a :: as) env) (x :: xs) := ⟨pks_cons h1.h h2.h⟩
instance frz_c1 [h : EvR env[i]? (.own false (.lst xs))] [h2 : SetR env i (.d (.lst xs)) env1] : EvR (frz (.cv i) env) (.lst xs, env1) := ⟨frz_cv h.h h2.h⟩
instance frz_c2 [h : EvR env[i]? (.own false (.ins w ns xs))] [h2 : SetR env i (.d (.ins w ns xs)) env1] : EvR (frz (.cv i) env) (.ins w ns xs, env1) := ⟨frz_cvI h.h h2.h⟩
instance frz_c3 [h : EvR env[i]? (.own false (.dct ks vs))] [h2 : SetR env i (.d (.dct ks vs)) env1] : EvR (frz (.cv i) env) (.dct ks vs, env1) := ⟨frz_cvK h.h h2.h⟩
instance frz_c4 [h : EvR env[i]? (.own false (.dcu ks vs))] [h2 : SetR env i (.d (.dcu ks vs)) env1] : EvR (frz (.cv i) env) (.dcu ks vs, env1) := ⟨frz_cvU h.h h2.h⟩
instance frzs_c [h1 : EvR (frz a env) (x, env1)] [h2 : EvR (frzs as env1) (xs, env2)] : EvR (frzs (a :: as) env) (x :: xs, env2) := ⟨frzs_cons h1.h h2.h⟩
instance sto_d [h : EvR env[i]? s] [f : FreeR s] [h2 : SetR env i (.d x) env2] : EvR (storeR i (.d x) env) env2 := ⟨st_d (fs_at h.h f.h) h2.h⟩
instance sto_o [h : EvR env[i]? s] [f : FreeR s] [h2 : SetR env i (.own false c) env2] : EvR (storeR i (.own c) env) env2 := ⟨st_own (fs_at h.h f.h) h2.h⟩
instance put_n [h : EvR env[i]? s] [f : FreeR s] [h2 : SetR env i (.d x) env2] : EvR (putT (.nm i) x env) env2 := ⟨put_nm (fs_at h.h f.h) h2.h⟩
instance tru_c [h : EvR env[i]? (.own t (.lst xs))] : EvR (tru (.cv i) env) (!xs.isEmpty) := ⟨tru_cv h.h⟩
instance res_c [h : EvR env[i]? (.own false c)] : EvR (resV (.cv i) env) (.own c) := ⟨res_cv h.h⟩
instance bk_n : EvR (backs [] e) [] := ⟨bk_nil⟩
instance bk_dd [h : EvR (backs vv e) o] : EvR (backs (.d x :: vv) (s :: e)) (.d x :: o) := ⟨bk_d h.h⟩
instance bk_oo {c' : C} [h : EvR (backs vv e) o] : EvR (backs (.own true c :: vv) (.own true c' :: e)) (.own true c' :: o) := ⟨bk_own h.h⟩
end
section
variable {env env1 env2 e0 : Sl} {a b a' : RV} {x y dx dy : D} {z : RV} {i : Nat} {f : D → D → Option RV} {g1 : D → Option RV} {g : List D → Option RV} {as : List RV} {xs ys : List D} {Q : QE} {E : QX} {N : Sl → Prop} {vs : List SV} {m : List SV → Option FR} {ds : List D} {fi : D → Option (List D)} {QI : List D → Sl → Prop} {t : Bool} {T F : Prop} {o ag : List SV} {P : List SV → Prop} {Q2 : RV → List SV → Prop} {tg : Tg} {c : Str} {fs : SA} {lo hi : Option Int} {s : SV}
instance r_var [h : EvR env[i]? (.d x)] : VR (wE (varE i) env Q E) (Q (.d x) env) := ⟨w_var h.h⟩
instance r_varO {cc : C} [h : EvR env[i]? (.own t cc)] : VR (wE (varE i) env Q E) (Q (.cv i) env) := ⟨w_varO h.h⟩
theorem w_opT [h1 : EvR (pk a env) dx] [h2 : EvR (pk b env) dy] (h3 : f dx dy = some z) (q : Q z env) : wr (op2 f a b env) Q E := w_op h1.h h2.h h3 q
theorem w_op1T [h1 : EvR (pk a env) dx] (h3 : g1 dx = some z) (q : Q z env) : wr ((pk a env).bind fun x => (g1 x).map (Re.ok · env)) Q E := w_op1 h1.h h3 q
theorem w_opET [h1 : EvR (pks as env) xs] (h3 : g xs = some z) (q : Q z env) : wr ((pks as env).bind fun xs => (g xs).map (Re.ok · env)) Q E := w_opE h1.h h3 q
theorem w_src1T [h1 : EvR (frz a env) (x, env1)] (h2 : itemsD x = some xs) (q : QI xs env1) : wri ((frz a env).bind fun p => (itemsD p.1).map fun xs => .ok xs p.2) QI E := w_src1 h1.h h2 q
instance r_callD1 [h1 : EvR (frzs as env) (xs, env1)] [h2 : MapR xs ds vs] : VR (wr ((frzs as env).bind fun p => (m ((p.1 ++ ds).map .d)).bind (outD p.2)) Q E) (wC (m vs) env1 Q E) := ⟨w_callD1 h1.h h2.h⟩
instance r_st [h : EvR (storeR i a env) env1] : VR (wSt i a env N) (N env1) := ⟨w_st h.h⟩
instance r_tu [h1 : EvR (frz a env) (x, env1)] [h2 : EvR (putT tg x env1) env2] : VR (wTu tg a env N) (N env2) := ⟨w_tu h1.h h2.h⟩
instance r_set [h : SetR env i s e0] : VR (wSet i s env N) (N e0) := ⟨w_set h.h⟩
instance r_bT [h : EvR (tru a env) true] : VR (wB a env T F) T := ⟨fun hT => w_bT h.h hT⟩
instance r_bF [h : EvR (tru a env) false] : VR (wB a env T F) F := ⟨fun hF => w_bF h.h hF⟩
instance r_out1 [h : EvR (backs ag env) o] : VR (∃ o, backs ag env = some o ∧ P o) (P o) := ⟨w_out1 h.h⟩
instance r_out2 [h0 : EvR (resV a env) a'] [h1 : EvR (backs ag env) o] : VR (∃ a' o, resV a env = some a' ∧ backs ag env = some o ∧ Q2 a' o) (Q2 a' o) := ⟨w_out2 h0.h h1.h⟩
end
end
end Dw
namespace Dw
end Dw
namespace Dw
end Dw
namespace Dw
noncomputable section
open PySem PySem.Spec PyProof.Rows L2
variable [Glo] [Tabs]
def inUg (g : Bool → Bool) : D → D → Option RV := fun k d => match d with
  | .dcu ks _ => if okKU k = true then some (.d (.bl (g (hasU ks k)))) else none
  | _ => none
def notInU : D → D → Option RV := inUg fun b => !b
def rInUx (K : PySem.W.Frag) (w : World) (g : Bool → Bool) : R2 := fun y x H Q => ∃ a b es k, x = .ref a ∧ y = .ref b ∧ H a = some (dxO w a es) ∧ KeyAt K H y k ∧ k.depth ≤ 8 ∧ KeysOk K H es ∧ Q (.bl (g (atKey es k).isSome)) H
theorem snd_inU {K : PySem.W.Frag} {g : Bool → Bool} : Snd2 K (inUg g) (rInUx K Glo.w g) := by
  intro W F R σ H env Q x y v w z S hx hy e p
  cases y with
  | dcu ks vs =>
    obtain ⟨a, es, us, rfl, hs, c1, c2, c3, c4⟩ := hy
    have e : (if okKU x = true then some (RV.d (.bl (g (hasU ks x)))) else none) = some z := e
    by_cases hk : okKU x = true
    · rw [if_pos hk] at e
      cases e
      obtain ⟨xs, q, rfl, hq, hd⟩ := okKU_inv hk
      have ry : Rel K F v (.tup xs) := hx
      obtain ⟨b, rfl⟩ : ∃ b, v = V.ref b := by cases ry; exact ⟨_, rfl⟩
      have U : UOk K F es us ks vs := ⟨c1, c2, c3, c4⟩
      refine ⟨a, b, es, q, rfl, rfl, hs, rel_key S.sub _ _ _ ry hq, hd, U.keys S.sub, ?_⟩
      have : (atKey es q).isSome = hasU ks (.tup xs) := by
        rcases atU_rel hq U with ⟨_, h3, h2⟩ | ⟨d', a', r, u, _, h3, h2, _⟩ <;> (rw [h3, h2]; first | done | rfl)
      rw [this]
      exact post_d S p (.bl _)
    · rw [if_neg hk] at e; cases e
  | _ => cases e
def tInU (K : PySem.W.Frag) (w : World) (g : Bool → Bool) (ty td : TE) : TE := fun σ H Q => ty σ H fun y H1 => td σ H1 fun x H2 => rInUx K w g y x H2 Q
section
variable {X : Cx} {W : WX} {i o : Expr} {ty td : TE} {fi fo : SE} {pos : Pos} {k : Nat}
theorem pc_ninU (hu : X.A.units + 9 < cLine) (hi : PE X i ty) (ho : PE X o td) : PC X .NotIn i o (tInU X.K X.w (fun b => !b) ty td) := by
  refine ⟨fun pins s σ H Q I h => ?_⟩
  refine thn (hi.run pins s σ H _ I h) fun iv s1 ⟨y, H1, I1, ry, q1⟩ => thn (ho.run pins s1 σ H1 _ I1 q1) fun u s2 ⟨x, H2, I2, rx, q2⟩ => ?_
  obtain ⟨a, b, es, kk, rfl, rfl, hD, ka, kd, ks, q⟩ := q2
  obtain rfl : u = Value.ref a := rx
  obtain rfl : iv = Value.ref b := ry
  obtain ⟨m, hd, _⟩ := dx_at I2 hD ks
  exact wpAny_notIn_heap (knd := nestedKind X.prog X.w) (show X.A.units + 1 + 8 < cLine by omega) ⟨key_is I2 kk _ _ ka rfl, kd⟩ hd m ⟨.bl (!(atKey es kk).isSome), H2, I2.tok _, rfl, q⟩
end
def ownUc : Option SV → Option (Bool × List D × List D)
  | some (.own b (.dcu ks vs)) => some (b, ks, vs)
  | _ => none
theorem ownUc_some {s : Option SV} {b : Bool} {ks vs : List D} (h : ownUc s = some (b, ks, vs)) : s = some (.own b (.dcu ks vs)) := by
  match s, h with
  | some (.own b' (.dcu _ _)), h => cases h; rfl
def setUS (j : Nat) (fi fe : SE) : SS := fun env => bindS (fe env) fun a env1 => (frz a env1).bind fun p => (ownUc p.2[j]?).bind fun _ => bindS (fi p.2) fun b env2 => (pk b env2).bind fun k => (ownUc env2[j]?).bind fun o =>
  if okKU k = true ∧ o.2.1.length < 100000 then some (.nx (env2.set j (.own o.1 (.dcu (putUk o.2.1 k) (putUv o.2.1 o.2.2 k p.1))))) else none
def sDPutU (K : PySem.W.Frag) (w : World) (td ty tv : TE) : TS := fun D σ H => tv σ H fun v H1 => td σ H1 fun x H2 => ty σ H2 fun y H3 => ∃ a b es k, x = .ref a ∧ y = .ref b ∧ H3 a = some (dxO w a es) ∧ KeyAt K H3 y k ∧ k.depth ≤ 8 ∧ KeysOk K H3 es ∧ es.length < sizeLine ∧
  ∀ r, RelV v r → D.nx σ (upd H3 a (dxO w a (storedH es k b r)))
section
variable {K : PySem.W.Frag} {W : WX} {F F' : Hp} {R R' : Fm} {σ : L2.St} {H H' : Hp} {env env' : Sl} {En : Ends} {Q : VK}
theorem dS_setUS {j : Nat} {fi fe : SE} (h : dS K W (setUS j fi fe) En σ H) : sDPutU K Glo.w (dE K W (varE j)) (dE K W fi) (dE K W fe) En σ H := by
  obtain ⟨env, F, R, r, S, e, p⟩ := h
  rcases bindS_inv e with ⟨a, env1, h1, h2⟩ | ⟨x, env1, h1, rfl⟩
  · rw [Option.bind_eq_some_iff] at h2
    obtain ⟨⟨x, env2⟩, h3, h4⟩ := h2
    rw [Option.bind_eq_some_iff] at h4
    obtain ⟨⟨b0, y0, y1⟩, h5, h6⟩ := h4
    refine ⟨env, F, R, _, S, h1, fun v F1 H1 e1 S1 rv => ?_⟩
    obtain ⟨F2, e2, S2, rx⟩ := frz_ok S1 rv h3
    have h5 := ownUc_some h5
    have hv : varE j env2 = some (.ok (.cv j) env2) := ev_varO h5
    refine ⟨env2, F2, R, _, S2, hv, fun o F3 H3 e3 S3 ro => ?_⟩
    have ro : σ[j]? = some (some o) := ro
    rcases bindS_inv h6 with ⟨b, env3, h7, h8⟩ | ⟨x', env3, h7, rfl⟩
    · refine ⟨env2, F3, R, _, S3, h7, fun w F4 H4 e4 S4 rw' => ?_⟩
      rw [Option.bind_eq_some_iff] at h8
      obtain ⟨kd, hb, h8⟩ := h8
      rw [Option.bind_eq_some_iff] at h8
      obtain ⟨⟨b1, ks, vs⟩, h9, h8⟩ := h8
      have h8 : (if okKU kd = true ∧ ks.length < 100000 then some (Out.nx (env3.set j (.own b1 (.dcu (putUk ks kd) (putUv ks vs kd x))))) else none) = some r := h8
      obtain ⟨⟨c1, c2⟩, rfl⟩ := some_if h8
      have h9 := ownUc_some h9
      obtain ⟨xs, q, rfl, hq, hd⟩ := okKU_inv c1
      have vw := pk_vw S4 rw' hb
      have ry : Rel K F4 w (.tup xs) := vw
      obtain ⟨b, rfl⟩ : ∃ b, w = V.ref b := by cases ry; exact ⟨_, rfl⟩
      obtain ⟨a, u, z1, _, _, z4, es, us, rfl, d1, d2, d3, d4⟩ := S4.own j _ _ h9
      rw [ro] at z1
      cases z1
      have U : UOk K F4 es us ks vs := ⟨d1, d2, d3, d4⟩
      refine ⟨a, b, es, q, rfl, rfl, z4, rel_key S4.sub _ _ _ ry hq, hd, U.keys S4.sub, by rw [U.len]; exact Nat.lt_of_lt_of_le c2 (by decide : 100000 ≤ sizeLine), fun rr hr => ?_⟩
      obtain ⟨us', U'⟩ := putU_rel hq ry (rx.up (e3.trans e4)) hr U
      exact p σ F4 _ (((e1.trans e2).trans e3).trans e4) (S4.mut h9 ro ⟨_, us', rfl, U'.n, U'.k, U'.u, U'.v⟩)
    · exact ⟨env2, F3, R, _, S3, h7, fun cls d F4 H4 e4 S4 hx => p cls d σ F4 H4 (((e1.trans e2).trans e3).trans e4) S4 hx⟩
  · exact ⟨env, F, R, _, S, h1, fun cls d F1 H1 e1 S1 hx => p cls d σ F1 H1 e1 S1 hx⟩
end
section
variable {X : Cx} {W : WX} {pos pos' : Pos} {fe fi : SE} {j k : Nat} {o i value : Expr} {td ty tv : TE}
theorem ps_dputU (hu : X.A.units + 9 < cLine) (ho : PE X o td) (hi : PE X i ty) (hv : PE X value tv) (hs : swapsWith value (some (.Subscript o i pos')) pos.line X.env = pure false) :
    PS X (.Assign [.Subscript o i pos'] value pos) (sDPutU X.K X.w td ty tv) := by
  refine ⟨fun pins s σ H D I h => ?_⟩
  refine wpAny_Assign_Subscript (thn (hv.run pins s σ H _ I h) fun r s1 ⟨v, H1, I1, rv, q1⟩ => thn (ho.run pins s1 σ H1 _ I1 q1) fun u s2 ⟨x, H2, I2, rx, q2⟩ => thn (hi.run pins s2 σ H2 _ I2 q2) fun iv s3 h3 => ?_) hs
  obtain ⟨y, H3, I3, ry, a, b, es, kk, rfl, rfl, hD, ka, kd, ks, hl, q⟩ := h3
  obtain rfl : u = Value.ref a := rx
  obtain rfl : iv = Value.ref b := ry
  obtain ⟨m, hd, _⟩ := dx_at I3 hD ks
  refine wpAny_setItem_heap (knd := nestedKind X.prog X.w) (hsz := Nat.le_of_lt hl) (show X.A.units + 1 + 8 < cLine by omega) ⟨key_is I3 kk _ _ ka rfl, kd⟩ m fun h' m' hsb => ?_
  obtain ⟨ob, es', ep, g1, _⟩ := id m'
  refine ⟨σ, _, d_write (ob := dxO X.w a (storedH es kk b r)) I3 (by rw [hD]; exact True.intro) hsb ⟨ob, g1⟩ (dx_new m' hd ?_), q r rv⟩
  have := storedH_length es kk b r
  omega
theorem ps_setUS (hW : X.w = Glo.w) (hr : Room k X.A) (ho : PE X o (dE X.K W (varE j))) (hi : PE X i (dE X.K W fi)) (hv : PE X value (dE X.K W fe)) (hs : swapsWith value (some (.Subscript o i pos')) pos.line X.env = pure false := by rfl) :
    PS X (.Assign [.Subscript o i pos'] value pos) (dS X.K W (setUS j fi fe)) := (ps_dputU (by have := hr.units; omega) ho hi hv hs).wk fun _ _ _ q => by rw [hW]; exact dS_setUS q
end
def dispU1 (fk fv : SE) : SE := fun env => match fk env with
  | some (.ok (.d k) env1) => (eltD fv env1).bind fun p => if okKU k = true then some (.ok (.own (.dcu [k] [p.1])) p.2) else none
  | _ => none
def tDispU (K : PySem.W.Frag) (w : World) (tk tv : TE) : TE := fun σ H Q => ∀ p, H p = none → tk σ (upd H p (dxO w p [])) fun x H1 => tv σ H1 fun y H2 => ∃ k b, x = .ref b ∧ H2 p = some (dxO w p []) ∧ KeyAt K H2 x k ∧ k.depth ≤ 8 ∧ ∀ r, RelV y r → Q (.ref p) (upd H2 p (dxO w p [(k, b, r)]))
theorem dict1H {prog : Program} {w : World} {K : Type} [DecidableEq K] {knd : HeapKind prog w K} {A : Around} {E : Value → Shared → Prop} {s : Shared} {env : Env} {keys : List (Option Expr)} {values : List Expr} {pos : Pos} {pairs : List (Sem Value × Sem Value)} {Q : Value → Shared → Prop} (hu : knd.room A)
    (hshape : (evalEachOpt keys env).zip ((evalEach values env).map fun v => do let x ← v; standAt pos; pure x) = pairs.map fun p => (some p.1, p.2)) (h0 : pairs ≠ []) (hlen : pairs.length ≤ 15)
    (h : wpAny (model prog w) A (evalPairs pairs) (fun vs s₁ => ∃ ps, CarriesH knd s₁.heap vs ps ∧ s₁.heap.DictOfH knd s.heap.objs.size [] ∧
      ∀ h' tk, h'.DictOfH knd s.heap.objs.size (storedAllH [] ps) → Heap.SameBut s.heap.objs.size s₁.heap h' → Q (.ref s.heap.objs.size) { s₁ with heap := h', toks := tk }) E
      { s with heap := s.heap.push { cls := .type "dict", data := .dict #[] } }) :
    wpAny (model prog w) A (eval (.Dict keys values pos) env) Q E s := by
  rw [arm_eval_Dict, hshape, dictDisplay_pairs pairs h0 (by omega)]
  exact wpAny_bind (wpAny_standAt (wpAny_bind (wpAny_subDictH (knd := knd) (Q := fun d s' => wpAny (model prog w) A (pure (Value.ref d)) Q E s') hu hlen
    (wpAny_mono h (fun vs s₁ h₁ => by obtain ⟨ps, hc, hm, hq⟩ := h₁; exact ⟨ps, hc, hm, fun h' tk a b => wpAny_pure (hq h' tk a b)⟩) fun _ _ e => e))))
section
variable {X : Cx} {W : WX} {k v : Expr} {fk fv : SE} {tk tv : TE} {pos : Pos} {n : Nat}
theorem pe_dispU (hu : X.A.units + 9 < cLine) (hk : PE X k tk) (hv : PE X v tv) : PE X (.Dict [some k] [v] pos) (tDispU X.K X.w tk tv) := by
  refine ⟨fun pins s σ H Q I q => ?_⟩
  have hn := I.hok.fresh (Nat.le_refl s.heap.objs.size)
  have bg : (s.heap.objs.size == sysModules) = false := beq_eq_false_iff_ne.mpr (Nat.ne_of_gt I.big)
  have m0 : (s.heap.push { cls := .type "dict", data := .dict #[] }).DictOfH (nestedKind X.prog X.w) s.heap.objs.size [] := ⟨_, #[], 0, Heap.get?_push_size _ rfl, ⟨rfl, rfl, rfl⟩, rfl, rfl, (fun _ hx => by cases hx), List.nodup_nil⟩
  have I1 := I.laid (a := s.heap.objs.size) (o := dxO X.w s.heap.objs.size []) (h' := s.heap.push { cls := .type "dict", data := .dict #[] }) (t' := s.toks) (fun _ _ q => Heap.get?_push_of_some _ q) (Nat.le_refl _) (dx_new m0 bg (Nat.zero_le _))
  refine dict1H (knd := nestedKind X.prog X.w) (pairs := pairTrees [some k] [v] X.env pos) (show X.A.units + 8 < cLine by omega) (zip_pairTrees _ _ _ _ rfl rfl) (fun e => ?_) ?_ (pairTrees_cons_walk (thn (hk.run pins _ σ _ _ I1 (q _ hn)) fun u s1 h1 => ?_))
  · have := pairTrees_length [some k] [v] X.env pos rfl rfl
    rw [e] at this
    cases this
  · rw [pairTrees_length [some k] [v] X.env pos rfl rfl]
    exact (by decide : 1 ≤ 15)
  obtain ⟨x, H1, I2, r1, q1⟩ := h1
  refine thn (hv.run pins s1 σ H1 _ I2 q1) fun u2 s2 h2 => ?_
  obtain ⟨y, H2, I3, r2, kk, b, rfl, hD, ka, kd, qq⟩ := h2
  obtain rfl : u = Value.ref b := r1
  obtain ⟨m, hd, _⟩ := dx_at I3 hD (fun _ hx => by cases hx)
  refine pairTrees_nil_walk ⟨[(kk, b, u2)], ⟨rfl, rfl, ⟨key_is I3 kk _ _ ka rfl, kd⟩, trivial⟩, m, fun h' tk' m' hsb => ?_⟩
  have m' : h'.DictOfH (nestedKind X.prog X.w) s.heap.objs.size [(kk, b, u2)] := m'
  obtain ⟨ob, es', ep, g1, _⟩ := id m'
  exact ⟨.ref s.heap.objs.size, _, d_write (ob := dxO X.w s.heap.objs.size [(kk, b, u2)]) I3 (by rw [hD]; exact True.intro) hsb ⟨ob, g1⟩ (dx_new m' hd (by decide : 1 ≤ sizeLine)), rfl, qq u2 r2⟩
end
section
variable {K : PySem.W.Frag} {W : WX} {σ : L2.St} {H : Hp} {Q : VK}
theorem dE_dispU {fk fv : SE} (h : dE K W (dispU1 fk fv) σ H Q) : tDispU K Glo.w (dE K W fk) (dE K W fv) σ H Q := by
  obtain ⟨env, F, R, r, S, e, p⟩ := h
  unfold dispU1 at e
  cases h1 : fk env with
  | none => rw [h1] at e; cases e
  | some r1 =>
    rw [h1] at e
    cases r1 with
    | ex _ _ => cases e
    | ok a1 env1 =>
      cases a1 with
      | own _ => cases e
      | cv _ => cases e
      | d k =>
        dsimp only at e
        rw [Option.bind_eq_some_iff] at e
        obtain ⟨⟨y, env4⟩, h4, e⟩ := e
        obtain ⟨hk, rfl⟩ := some_if e
        obtain ⟨xs, qk, rfl, hqk, hd⟩ := okKU_inv hk
        unfold eltD at h4
        cases h5 : fv env1 with
        | none => rw [h5] at h4; cases h4
        | some r5 =>
          rw [h5] at h4
          cases r5 with
          | ex _ _ => cases h4
          | ok a env5 =>
            intro q hq
            have S0 : Sta K F R σ (upd H q (dxO Glo.w q [])) env := S.freshH hq
            have A : AccAt K F R σ (upd H q (dxO Glo.w q [])) env q (.dcu [] []) := ⟨⟨_, upd_same, [], [], rfl, rfl, .nil, .nil, .nil⟩, S.freeF hq, S.freeR hq, fun i b c' e z => by
              obtain ⟨p', o, e1, _, _, e4, _⟩ := S.own i b c' e
              rw [z] at e1
              cases e1
              rw [hq] at e4
              cases e4⟩
            obtain ⟨o, ho, eR, S1⟩ := A.hold S0
            refine ⟨env, F, _, _, S1, h1, fun u F5 H5 e5 S5 ru => ⟨env1, F5, _, _, S5, h5, fun w F6 H6 e7 S6 rw' => ?_⟩⟩
            have ru : Rel K F5 u (.tup xs) := ru
            obtain ⟨b, rfl⟩ : ∃ b, u = V.ref b := by cases ru; exact ⟨_, rfl⟩
            obtain ⟨F7, e8, S7, r7⟩ := frz_ok S6 rw' h4
            obtain ⟨S8, A8⟩ := AccAt.back A.r ho (e5.trans (e7.trans e8)) S7
            obtain ⟨o', k1, es, us, rfl, c1, c2, c3, c4⟩ := A8.o
            have : es = [] := by cases es with | nil => rfl | cons _ _ => cases c1
            subst this
            have rb := ru.up (e7.trans e8)
            refine ⟨qk, b, rfl, k1, rel_key S8.sub _ _ _ rb hqk, hd, fun rr hr => ?_⟩
            obtain ⟨S9, A9⟩ := A8.put S8 (o' := dxO Glo.w q [(qk, b, rr)]) (acc' := .dcu [.tup xs] [y]) ⟨_, [w], rfl, by rw [List.map_cons, List.map_nil, hqk]; rfl, .cons rb .nil, .cons hr .nil, .cons r7 .nil⟩
            obtain ⟨o9, g1, g2⟩ := A9.o
            exact p _ F7 _ (e5.trans (e7.trans e8)) S9 ⟨q, _, rfl, A9.f, A9.r, g1, g2, A9.a⟩
end
section
variable {X : Cx} {W : WX} {k v : Expr} {fk fv : SE} {pos : Pos} {n : Nat}
theorem pd_dispU (hW : X.w = Glo.w) (hr : Room n X.A) (hk : PE X k (dE X.K W fk)) (hv : PE X v (dE X.K W fv)) : PE X (.Dict [some k] [v] pos) (dE X.K W (dispU1 fk fv)) :=
  (pe_dispU (by have := hr.units; omega) hk hv).wk fun _ _ _ q => by rw [hW]; exact dE_dispU q
end
section
variable {env : Sl} {fk fv fi fe : SE} {Q : QE} {E : QX}
theorem w_dispU (h : wE fk env (fun u e1 => ∃ k, u = .d k ∧ okKU k = true ∧ wE fv e1 (fun w e2 => ∃ y e3, frz w e2 = some (y, e3) ∧ Q (.own (.dcu [k] [y])) e3) nE) nE) : wE (dispU1 fk fv) env Q E := by
  obtain ⟨u, e1, h1, k, rfl, hk, h⟩ := wE_get h
  obtain ⟨w, e2, h2, y, e3, h3, q⟩ := wE_get h
  show wr (dispU1 fk fv env) Q E
  unfold dispU1 eltD
  rw [h1]
  dsimp only
  rw [h2]
  dsimp only
  rw [h3, Option.bind_some, if_pos hk]
  exact q
end
end
end Dw
namespace Dw
noncomputable section
open PySem PySem.Spec PyProof.Rows L2
variable [Glo] [Tabs]
theorem bl_inUg {g : Bool → Bool} {x y : D} {z : RV} (h : inUg g x y = some z) : ∃ b, z = .d (.bl b) := by
  cases y with
  | dcu ks vs =>
    have h : (if okKU x = true then some (RV.d (.bl (g (hasU ks x)))) else none) = some z := h
    obtain ⟨_, rfl⟩ := some_if h
    exact ⟨_, rfl⟩
  | _ => cases h
section
variable {X : Cx} {W : WX} {i o : Expr} {fi fo : SE} {pos : Pos} {k : Nat}
theorem pt_notInU (hW : X.w = Glo.w) (hr : Room k X.A) (ha : PE X i (dE X.K W fi)) (hb : PE X o (dE X.K W fo)) (hm : behindInMarks .NotIn o = false := by rfl) : PT X (.Compare i [.NotIn] [o] pos) (dT X.K W (two (op2 notInU) fi fo)) :=
  (pt_cmp (pc_ninU (by have := hr.units; omega) ha hb) hm).wk fun σ H Q q => dE_two (key_bl (fun _ _ _ => bl_inUg) q) fun _ _ _ _ _ _ _ _ S h1 h2 h => by rw [hW]; exact op2_snd snd_inU S h1 h2 h
end
section
variable {env : Sl} {Q R : QE} {E : QX} {N B Ct : Sl → Prop} {fe fi : SE} {j i : Nat} {k : D} {ks vs : List D} {t : Bool}
theorem w_setUS (h : wE fe env (fun u e1 => ∃ d e2 t ks vs, frz u e1 = some (d, e2) ∧ e2[j]? = some (.own t (.dcu ks vs)) ∧ wE fi e2 (fun v e3 => ∃ k t' ks' vs' e4, pk v e3 = some k ∧ e3[j]? = some (.own t' (.dcu ks' vs')) ∧ (okKU k = true ∧ ks'.length < 100000) ∧
    e3.set j (.own t' (.dcu (putUk ks' k) (putUv ks' vs' k d))) = e4 ∧ N e4) E) E) : wS (setUS j fi fe) env N ⟨R, B, Ct, E⟩ := wrs_bind (wr_mono h (fun u e1 h => by
  obtain ⟨d, e2, t, ks, vs, h1, h2, h3⟩ := h
  rw [h1, Option.bind_some]
  dsimp only
  rw [h2]
  show wrs (bindS (fi e2) _) _ _
  exact wrs_bind (wr_mono h3 (fun v e3 h => by
    obtain ⟨k, t', ks', vs', e4, g1, g2, g3, g4, g5⟩ := h
    rw [g1, Option.bind_some, g2]
    show wrs (if okKU k = true ∧ ks'.length < 100000 then some (Out.nx (e3.set j (.own t' (.dcu (putUk ks' k) (putUv ks' vs' k d))))) else none) _ _
    rw [if_pos g3, g4]
    exact g5) fun _ _ h => h)) fun _ _ h => h)
theorem notInU_in (h : okKU k = true) : notInU k (.dcu ks vs) = some (.d (.bl (!hasU ks k))) := if_pos h
theorem pk_cvUc (h : env[i]? = some (.own t (.dcu ks vs))) : pk (.cv i) env = some (.dcu ks vs) := by unfold pk; dsimp only; rw [h]; rfl
end
end
end Dw
namespace Dw
end Dw
namespace Dw
noncomputable section
open PySem PySem.Spec PyProof.Rows L2
variable [Glo] [Tabs]
def revI (fe : SE) : SI := fun env => bindI (fe env) fun a env1 => (frz a env1).bind fun p => match p.1 with
  | .lst xs => some (.ok xs.reverse p.2)
  | _ => none
section
variable {K : PySem.W.Frag} {W : WX} {F : Hp} {R : Fm} {σ : L2.St} {H : Hp} {env : Sl}
theorem wk_rev {a : Addr} {vs : List V} {xs : List D} (s : SqL K F a vs) (r : RelAll K F vs xs) : Wk K F (Itv K a vs.length) xs.reverse := by
  have hl := r.len
  have at_ : ∀ {i : Nat} {x : D}, xs.reverse[i]? = some x → i < vs.length ∧ ∃ v, vs[vs.length - 1 - i]? = some v ∧ Rel K F v x := fun {i x} hx => by
    have hi : i < xs.length := by
      have := (List.getElem?_eq_some_iff.mp hx).1
      rwa [List.length_reverse] at this
    rw [List.getElem?_reverse hi, ← hl] at hx
    obtain ⟨v, e, rv⟩ := r.getD hx
    exact ⟨by omega, v, e, rv⟩
  refine ⟨fun i H hi e => ?_, fun H e => ?_, fun {F' R σ env} i H v H' x hx e S y => ?_⟩
  · obtain ⟨h1, v, h2, _⟩ := at_ (List.getElem?_eq_getElem hi)
    exact ⟨h1, vs, v, ex_l e s, h2⟩
  · show vs.length ≤ _
    rw [List.length_reverse, hl]
    exact Nat.le_refl _
  · obtain ⟨h1, v', h2, rv⟩ := at_ hx
    obtain ⟨rfl, y2⟩ := y
    have := y2 vs (ex_l (e.trans S.sub) s)
    rw [h2] at this
    cases this
    exact ⟨F', Ex.refl F', S, rv.up e, Ex.refl _⟩
theorem dI_rev {fe : SE} {Q : It → Hp → Prop} (h : dI K W (revI fe) σ H Q) : RT.iRevA K (dE K W fe) σ H Q := by
  obtain ⟨env, F, R, r, S, e, p⟩ := h
  rcases bindI_inv e with ⟨a, env1, h1, h2⟩ | ⟨x, env1, h1, rfl⟩
  · rw [Option.bind_eq_some_iff] at h2
    obtain ⟨⟨x, env2⟩, h3, h4⟩ := h2
    cases x with
    | lst ys =>
      cases h4
      exact ⟨env, F, R, _, S, h1, fun v F1 H1 e1 S1 rv => by
        obtain ⟨F2, e2, S2, r2⟩ := frz_ok S1 rv h3
        have r2 : Rel K F2 v (.lst ys) := r2
        cases r2 with
        | lst s rr => exact ⟨_, _, rfl, .inl ⟨ex_l S2.sub s, p _ F2 H1 (e1.trans e2) S2 (wk_rev s rr)⟩⟩⟩
    | _ => cases h4
  · exact ⟨env, F, R, _, S, h1, p⟩
end
section
variable {X : Cx} {W : WX} {e tg : Expr} {fe : SE} {p pos : Pos}
theorem pi_drev (hm : X.mg "reversed" = none) (he : PE X e (dE X.K W fe)) (hg : Gl X "reversed" := by rfl) (hs : starEach [e] X.env = (false, eval e X.env) :: starEach [] X.env := by rfl) : PI X tg (.Call (.Name "reversed" p) [e] [] pos) (dI X.K W (revI fe)) :=
  (RT.pi_revA hg hm he hs).wk fun _ _ _ q => dI_rev q
end
section
variable {env env1 : Sl} {fe : SE} {u : RV} {xs : List D} {QI : List D → Sl → Prop} {E : QX}
theorem w_revI (h : wE fe env (fun u e1 => ∃ xs e2, frz u e1 = some (.lst xs, e2) ∧ QI xs.reverse e2) E) : wI (revI fe) env QI E := by
  show wri (revI fe env) QI E
  unfold revI
  have h : wr (fe env) _ E := h
  cases h1 : fe env with
  | none => rw [h1] at h; exact h.elim
  | some r =>
    rw [h1] at h
    cases r with
    | ex x e => exact h
    | ok u e1 =>
      obtain ⟨xs, e2, h2, q⟩ := h
      show wri ((frz u e1).bind _) QI E
      rw [h2]
      exact q
end
end
end Dw
namespace Dw
noncomputable section
open PySem PySem.Spec PyProof.Rows L2
variable [Glo] [Tabs]
theorem drawsStr {prog : Program} {w : World} {A : Around} (hh : A.handled = none) (it : Addr) (x : Str) (t : Tok) :
    Draws prog w A it [it] x.cps.size (fun i v => ∃ c u, x.cps[i]? = some c ∧ v = .str ⟨#[c]⟩ u) (fun i h => h.IsStrIter it (strIterType x) x t i) := by
  unfold strIterType
  cases x.cps.all (· < 128)
  · exact Draws.strWide hh it x t
  · exact Draws.strAscii hh it x t
def itS (x : Str) (t : Tok) : Obj := { cls := .type (strIterType x), data := .fields #[.str x t, .int 0 0] }
abbrev zS1 (x : Str) (t : Tok) (h : Heap) : Heap := h.push (itS x t)
abbrev zS2 (x : Str) (t : Tok) (h : Heap) (b : Addr) : Heap := (zS1 x t h).push (itO false b)
abbrev zS3 (x : Str) (t : Tok) (h : Heap) (b : Addr) : Heap := (zS2 x t h b).push { cls := .type "tuple", data := .seq #[.ref h.objs.size, .ref (zS1 x t h).objs.size] }
abbrev zS4 (x : Str) (t : Tok) (h : Heap) (b : Addr) : Heap := (zS3 x t h b).push { cls := .type "tuple", data := .seq #[.none, .none] }
abbrev zS5 (x : Str) (t : Tok) (h : Heap) (b : Addr) : Heap := (zS4 x t h b).push { cls := .type "zip", data := .fields #[.none, .bool false, .bool false, .ref (zS2 x t h b).objs.size, .ref (zS3 x t h b).objs.size] }
theorem meets_zipS (x : Str) (t : Tok) (b : Addr) (ys : Array Value) : Meets (Builtin.«zip.__new__» ⟨[.type "zip", .str x t, .ref b], []⟩) (fun _ R s => s.heap.IsList b ys ∧ R (.ok (.ret (.ref (zS4 x t s.heap b).objs.size))) { s with heap := zS5 x t s.heap b }) :=
  .of_wp fun prog w A R s h => by
    obtain ⟨hp, g, d, tk, os⟩ := s; obtain ⟨e2, h⟩ := h; have hsub := sub_zip
    have f2 : Heap.IsList (Shared.heap ⟨(Shared.heap ⟨hp, g, d, tk, os⟩).push { cls := .type (strIterType x), data := .fields #[.str x t, .int 0 0] }, g, d, tk, os⟩) b ys := Heap.IsList.push e2 _
    wp_walk using wpAny_pyIter_strU, wpAny_pyIter_list f2
    exact ⟨_, rfl, h⟩
section
variable {prog : Program} {w : World} {A : Around} {E : Value → Shared → Prop} {s : Shared} {b : Addr} {x : Str} {t : Tok} {ys : Array Value}
theorem call_zipS {Q : Value → Shared → Prop} (e2 : s.heap.IsList b ys)
    (k : ∀ h', IsZip h' (s.heap.objs.size + 4) (s.heap.objs.size + 2) (s.heap.objs.size + 3) .none → IsPair h' (s.heap.objs.size + 2) (.ref s.heap.objs.size) (.ref (s.heap.objs.size + 1)) → IsPair h' (s.heap.objs.size + 3) .none .none →
      h'.IsStrIter s.heap.objs.size (strIterType x) x t 0 → h'.IsListIter (s.heap.objs.size + 1) b 0 → (∀ c o, s.heap.get? c = some o → h'.get? c = some o) → Q (.ref (s.heap.objs.size + 4)) { s with heap := h' }) : wpAny (model prog w) A (call (.type "zip") [.str x t, .ref b]) Q E s := by
  refine callType_new F.called_zip (by decide) (F.typeCall_zip_2 _ _) (F.newCall_zip_2 _ _) (fun obj => F.args_object_init_3 obj _ _) F.entry_zip_new (meets_zipS x t b ys) ⟨e2, ?_⟩
  have y1 : (zS1 x t s.heap).objs.size = s.heap.objs.size + 1 := Heap.size_push ..
  have y2 : (zS2 x t s.heap b).objs.size = s.heap.objs.size + 2 := by rw [Heap.size_push, y1]
  have y3 : (zS3 x t s.heap b).objs.size = s.heap.objs.size + 3 := by rw [Heap.size_push, y2]
  have y4 : (zS4 x t s.heap b).objs.size = s.heap.objs.size + 4 := by rw [Heap.size_push, y3]
  have p5 : (zS5 x t s.heap b).get? (zS4 x t s.heap b).objs.size = some _ := Heap.get?_push_size _ rfl
  have p4 : (zS5 x t s.heap b).get? (zS3 x t s.heap b).objs.size = some _ := Heap.get?_push_of_some _ (Heap.get?_push_size _ rfl)
  have p3 : (zS5 x t s.heap b).get? (zS2 x t s.heap b).objs.size = some _ := Heap.get?_push_of_some _ (Heap.get?_push_of_some _ (Heap.get?_push_size _ rfl))
  have p2 : (zS5 x t s.heap b).get? (zS1 x t s.heap).objs.size = some (itO false b) := Heap.get?_push_of_some _ (Heap.get?_push_of_some _ (Heap.get?_push_of_some _ (Heap.get?_push_size _ rfl)))
  have p1 : (zS5 x t s.heap b).get? s.heap.objs.size = some (itS x t) := Heap.get?_push_of_some _ (Heap.get?_push_of_some _ (Heap.get?_push_of_some _ (Heap.get?_push_of_some _ (Heap.get?_push_size _ rfl))))
  (show _ ∧ _); rw [y2, y3, y4] at p5; rw [y1, y2] at p3; rw [y3] at p4; rw [y1] at p2; rw [y4]
  exact ⟨⟨_, p5, rfl⟩, k _ p5 p3 p4 ⟨_, p1, rfl, rfl⟩ (ItB.new (t := false) p2) fun c o x => Heap.get?_push_of_some _ (Heap.get?_push_of_some _ (Heap.get?_push_of_some _ (Heap.get?_push_of_some _ (Heap.get?_push_of_some _ x))))⟩
end
def ItZS (K : PySem.W.Frag) (x : Str) (b : Addr) : It :=
  ⟨fun i H => ∃ (ys : List V) (y : V), SqL K H b ys ∧ i < x.cps.size ∧ ys[i]? = some y,
   fun i H v H' => ∃ T c y, v = .ref T ∧ H T = none ∧ H' = upd H T (.tup [.str ⟨#[c]⟩, y]) ∧ x.cps[i]? = some c ∧ ∀ ys, SqL K H b ys → ys[i]? = some y,
   fun i H => ∃ ys : List V, SqL K H b ys ∧ (x.cps.size = i ∨ ys.length = i) ∧ i ≤ x.cps.size ∧ i ≤ ys.length⟩
theorem sep2 {I l : Nat} (h : l < I) : ZipSep2 (I + 4) (I + 2) (I + 3) I (I + 1) [I] [I + 1, l] := by
  constructor <;> first | (intro e; simp at e; omega) | (simp; done) | (simp; first | exact Nat.ne_of_gt (Nat.lt_of_lt_of_le h (Nat.le_add_right _ _)) | exact Nat.ne_of_gt h) | omega
theorem turn_zipS {P : Program} {w : World} {K : PySem.W.Frag} {elts : List Expr} {kk : Nat} {tpos : Pos} {x : Str} {t : Tok} {b z TI TO p q : Addr} (S : ZipSep2 z TI TO p q [p] [q, b]) (hbq : b ≠ q) :
    Turn P w K (.Tuple elts kk tpos) (ItZS K x b) [z, TI, TO, p, q] z (fun i h => IsZip h z TI TO .none ∧ IsPair h TI (.ref p) (.ref q) ∧ (∃ x y, IsPair h TO x y) ∧ h.IsStrIter p (strIterType x) x t i ∧ h.IsListIter q b i) where
  mem := by simp
  obj := by
    intro i h st c hc
    obtain ⟨hz, h1, ⟨x0, y0, h2⟩, ⟨o3, h3, _, d3⟩, ⟨o4, h4, _, d4⟩⟩ := st
    simp only [List.mem_cons, List.not_mem_nil, or_false] at hc
    rcases hc with e | e | e | e | e <;> subst e
    · exact ⟨_, hz, fun v r => nomatch r⟩
    · exact ⟨_, h1, fun v r => nomatch r⟩
    · exact ⟨_, h2, fun v r => nomatch r⟩
    · exact ⟨_, h3, fun v r => by rw [d3] at r; cases r⟩
    · exact ⟨_, h4, fun v r => by rw [d4] at r; cases r⟩
  keep := by
    intro i h h' st k
    obtain ⟨hz, h1, ⟨x0, y0, h2⟩, ⟨o3, h3, r3⟩, h4⟩ := st
    exact ⟨k z (by simp) _ hz, k TI (by simp) _ h1, ⟨x0, y0, k TO (by simp) _ h2⟩, ⟨o3, k p (by simp) _ h3, r3⟩, h4.at fun o r => k q (by simp) o r⟩
  item := by
    intro X hP hw hK hc i pins s σ H E I hf st hg
    subst hP hw hK
    obtain ⟨hz, h1, ⟨x0, y0, h2⟩, h3, h4⟩ := st
    obtain ⟨ys, y, qy, hx, hy⟩ := hg
    obtain ⟨js, r2, b2, _⟩ := I.list qy
    obtain ⟨v2, e2, f2⟩ := r2.get hy
    have hj : i < js.toArray.size := by
      have := (List.getElem?_eq_some_iff.mp e2).1
      simpa using this
    have zl : z < s.heap.objs.size := Heap.lt_size hz
    have hd : X.A.in1.handled = none := I.ok.hd hc
    refine wpAny_pyNext_zipD2_item S (drawsStr hd p x t) (Draws.list hd q b hbq js.toArray) hz h1 h2 h3 ⟨h4, b2.isList⟩ hx hj fun w1 w2 h' tk y1 y2 n1 n2 n3 n4 n5 n6 n7 => ?_
    obtain ⟨c, u, hcx, rfl⟩ := y1
    have : w2 = v2 := by
      have y2 : js.toArray[i]? = some w2 := y2
      rw [show js.toArray[i]? = js[i]? by simp, e2] at y2
      exact (Option.some.inj y2).symm
    subst this
    refine ⟨_, rfl, wpAny_letOwnedTupleGo_zip (s := { s with heap := h', toks := tk }) n1 fun h'' m1 sb => ?_⟩
    have t2 : h''.get? s.heap.objs.size = some { cls := .type "tuple", data := .seq #[.str ⟨#[c]⟩ u, w2] } := (sb.2 _ (Nat.ne_of_gt zl)).trans n5
    have nw : ObjOk X.prog X.w (upd H s.heap.objs.size (.tup [.str ⟨#[c]⟩, y])) h'' s.heap.objs.size (.tup [.str ⟨#[c]⟩, y]) := ⟨by show 2 ≤ sizeLine; decide, [.str ⟨#[c]⟩ u, w2], .cons ⟨u, rfl⟩ (.cons f2 .nil), ⟨_, t2, rfl, _, rfl⟩⟩
    have I1 : Inv X pins σ (upd H s.heap.objs.size (.tup [.str ⟨#[c]⟩, y])) { s with heap := h'', toks := tk } := I.turnedNew (t' := tk) (ch := [z, TI, TO, p, q])
      (fun d o hb r => (sb.2 d (fun w => hb (by simp [w]))).trans (n7 d o (fun w => hb (by simp [w])) (fun w => hb (by simp [w])) (fun w => hb (by simp [w])) (fun w => hb (by simp [w])) r)) hf (Nat.le_refl _) nw
    have kz : ∀ d o, d ≠ z → h'.get? d = some o → h''.get? d = some o := fun d o hd r => (sb.2 d hd).trans r
    refine ⟨.ref s.heap.objs.size, _, I1, rfl, ⟨_, c, y, rfl, I.hok.fresh (Nat.le_refl _), rfl, hcx, fun l hl => by rw [I.list_inj hl qy]; exact hy⟩,
      ⟨m1, kz _ _ S.TIz (n7 _ _ S.TIz S.TITO S.TIi1 S.TIi2 h1), ⟨_, _, kz _ _ S.TOz n2⟩, let ⟨o, ho, r⟩ := n3; ⟨o, kz _ _ (fun e => S.zi1 e.symm) ho, r⟩, n4.1.at fun o r => kz _ _ (fun e => S.zi2 e.symm) r⟩, fun d hdm => ?_⟩
    have hlt : d < s.heap.objs.size := by
      have hdm2 := hdm
      simp only [List.mem_cons, List.not_mem_nil, or_false] at hdm2
      rcases hdm2 with e | e | e | e | e <;> rw [e]
      · exact zl
      · exact Heap.lt_size h1
      · exact Heap.lt_size h2
      · obtain ⟨o, ho, _⟩ := h3; exact Heap.lt_size ho
      · obtain ⟨o, ho, _⟩ := h4; exact Heap.lt_size ho
    rw [upd_ne (Nat.ne_of_lt hlt)]
    exact (hf d hdm).1
  done := by
    intro X hP hw hK hc i pins s σ H E I hf st hg
    subst hP hw hK
    obtain ⟨hz, h1, ⟨x0, y0, h2⟩, h3, h4⟩ := st
    obtain ⟨ys, qy, en, l1, l2⟩ := hg
    obtain ⟨js, r2, b2, _⟩ := I.list qy
    have hl := r2.length
    have hd : X.A.in1.handled = none := I.ok.hd hc
    exact wpAny_pyNext_zipD2_end S (drawsStr hd p x t) (Draws.list hd q b hbq js.toArray) hz h1 h2 h3 ⟨h4, b2.isList⟩ l1 (by simp; omega) (by simp; omega) fun h' tk hk => ⟨rfl, I.turnedL (t' := tk) (ch := [z, TI, TO, p, q])
      (fun c o hb r => hk c o (fun w => hb (by simp [w])) (fun w => hb (by simp [w])) (fun w => hb (by simp [w])) (fun w => hb (by simp [w])) r) hf⟩
  self := fun A i s Q E st h => wpAny_pyIter_zip st.1 h
def iZipS (K : PySem.W.Frag) (ta : TA) : TI := fun σ H R => ta σ H fun vs H1 => ∃ x b ys, vs = [.str x, .ref b] ∧ SqL K H1 b ys ∧ R (ItZS K x b) H1
theorem pi_zipS {X : Cx} {e e2 : Expr} {ta : TA} {p pos tpos : Pos} {elts : List Expr} {kk : Nat} (hg : Gl X "zip") (hm : X.mg "zip" = none) (ha : PA X [e, e2] ta)
    (hs : starEach [e, e2] X.env = (false, eval e X.env) :: starEach [e2] X.env := by rfl) (hpl : (backTo pos (starEach [e2] X.env)).any (·.1) = false := by rfl) : PI X (.Tuple elts kk tpos) (.Call (.Name "zip" p) [e, e2] [] pos) (iZipS X.K ta) := by
  refine ⟨fun pins s σ H R I h => ?_⟩
  refine Call_ (ld_blt I hg hm PyProof.Rows.boot_zip (PyProof.Rows.callWith_type1 (thn (ha.run pos pins s σ H _ I h) fun us s1 ⟨vs, H1, I1, r1, q1⟩ => ?_) hs hpl))
  obtain ⟨x, b, ys, ex, qy, q⟩ := q1
  subst ex
  cases r1 with
  | cons rx rr =>
  cases rr with
  | cons ry rr =>
  cases rr
  obtain ⟨t, rfl⟩ := rx
  cases ry
  obtain ⟨js, f2, b2, _⟩ := I1.list qy
  have bl := b2.isList
  have hlt : b < s1.heap.objs.size := SqB.lt (t := false) bl
  refine call_zipS bl fun h' n1 n2 n3 n4 n5 hk => wpAny_pyIter_zip n1 ?_
  have I2 : Inv X pins σ H1 { s1 with heap := h' } := I1.kept (t' := s1.toks) hk
  refine ⟨s1.heap.objs.size + 4, [s1.heap.objs.size + 4, s1.heap.objs.size + 2, s1.heap.objs.size + 3, s1.heap.objs.size, s1.heap.objs.size + 1], _, _, H1, rfl, I2, turn_zipS (t := t) (sep2 hlt) (Nat.ne_of_lt (Nat.lt_succ_of_lt hlt)), ⟨n1, n2, ⟨_, _, n3⟩, n4, n5⟩, fun c hcm => ?_, q⟩
  have hc5 : c = s1.heap.objs.size + 4 ∨ c = s1.heap.objs.size + 2 ∨ c = s1.heap.objs.size + 3 ∨ c = s1.heap.objs.size ∨ c = s1.heap.objs.size + 1 := by simpa only [List.mem_cons, List.not_mem_nil, or_false] using hcm
  have hle : s1.heap.objs.size ≤ c := by
    rcases hc5 with e | e | e | e | e <;> rw [e]
    · exact Nat.le_add_right _ _
    · exact Nat.le_add_right _ _
    · exact Nat.le_add_right _ _
    · exact Nat.le_refl _
    · exact Nat.le_add_right _ _
  exact I1.fpOk hle (I1.hok.fresh hle)
def zipSE (fa : SA) : SI := fun env => bindAI (fa env) fun as env1 => (frzs as env1).bind fun p => match p.1 with
  | [.str x, .lst ys] => if x.length = ys.length then some (.ok (zipL (x.map fun c => .str [c]) ys) p.2) else none
  | _ => none
section
variable {K : PySem.W.Frag} {W : WX} {F F' : Hp} {R R' : Fm} {σ : L2.St} {H H' : Hp} {env env' : Sl}
theorem wk_zipS {x : List Nat} {b : Addr} {ws : List V} {ys : List D} (hl : x.length = ys.length) (s2 : SqL K F b ws) (r2 : RelAll K F ws ys) : Wk K F (ItZS K (mk x) b) (zipL (x.map fun c => .str [c]) ys) := by
  have hx : (mk x).cps.size = x.length := mk_len x
  have hr := r2.len
  refine ⟨fun i H hi e => ?_, fun H e => ⟨ws, ex_l e s2, by rw [zipL_len, List.length_map]; left; omega, by rw [zipL_len, List.length_map]; omega, by rw [zipL_len, List.length_map]; omega⟩, fun {F' R σ env} i H v H' y hx e S yl => ?_⟩
  · rw [zipL_len, List.length_map] at hi
    obtain ⟨w, hw, _⟩ := r2.getD (List.getElem?_eq_getElem (show i < ys.length by omega))
    exact ⟨ws, w, ex_l e s2, by omega, hw⟩
  · obtain ⟨T, c, v2, rfl, hT, rfl, g1, g2⟩ := yl
    obtain ⟨a, y, h1, h2, rfl⟩ := zipL_get i _ _ _ hx
    obtain ⟨d2, q2, f2⟩ := r2.get (g2 ws (ex_l (e.trans S.sub) s2))
    rw [h2] at q2
    cases q2
    have g1 : x[i]? = some c := by
      have : (mk x).cps[i]? = x[i]? := by simp [mk]
      rw [← this]; exact g1
    rw [List.getElem?_map, g1] at h1
    cases h1
    have eF : Ex F' (upd F' T (.tup [.str ⟨#[c]⟩, v2])) := Ex.new (S.freeF hT)
    exact ⟨_, eF, S.freshF hT, .tup (SqT.of upd_same) (.cons (.str [c]) (.cons ((f2.up e).up eF) .nil)), Ex.new hT⟩
theorem dI_zipS {fa : SA} {Q : It → Hp → Prop} (h : dI K W (zipSE fa) σ H Q) : iZipS K (dA K W fa) σ H Q := by
  obtain ⟨env, F, R, r, S, e, p⟩ := h
  rcases bindAI_inv e with ⟨as, env1, h1, h2⟩ | ⟨x, env1, h1, rfl⟩
  · rw [Option.bind_eq_some_iff] at h2
    obtain ⟨⟨zs, env2⟩, h3, h4⟩ := h2
    match zs, h3, h4 with
    | [.str x, .lst ys], h3, h4 =>
      have h4 : (if x.length = ys.length then some (ReI.ok (zipL (x.map fun c => D.str [c]) ys) env2) else none) = some r := h4
      obtain ⟨hl, rfl⟩ := some_if h4
      refine ⟨env, F, R, _, S, h1, fun vs F1 H1 R1 e1 eR S1 hv => ?_⟩
      obtain ⟨F2, R2, e2, eR2, S2, rr⟩ := frzs_held eR S1 hv h3
      match vs, rr with
      | _, .cons ra (.cons rb .nil) =>
        cases ra
        cases rb with
        | lst sb lb =>
          exact ⟨mk x, _, _, rfl, ex_l S2.sub sb, p _ F2 H1 (e1.trans e2) (S2.unhold eR2) (wk_zipS hl sb lb)⟩
  · exact ⟨env, F, R, _, S, h1, p⟩
end
section
variable {X : Cx} {W : WX} {e e2 : Expr} {fa : SA} {p pos tpos : Pos} {elts : List Expr} {kk : Nat}
theorem pi_dzipS (hm : X.mg "zip" = none) (ha : PA X [e, e2] (dA X.K W fa)) (hg : Gl X "zip" := by rfl) (hs : starEach [e, e2] X.env = (false, eval e X.env) :: starEach [e2] X.env := by rfl) (hpl : (backTo pos (starEach [e2] X.env)).any (·.1) = false := by rfl) :
    PI X (.Tuple elts kk tpos) (.Call (.Name "zip" p) [e, e2] [] pos) (dI X.K W (zipSE fa)) := (pi_zipS hg hm ha hs hpl).wk fun _ _ _ q => dI_zipS q
end
section
variable {env env1 : Sl} {fs : SA} {QI : List D → Sl → Prop} {E : QX}
theorem w_zipS (h : wA fs env (fun as e1 => ∃ x ys e2, frzs as e1 = some ([.str x, .lst ys], e2) ∧ x.length = ys.length ∧ QI (zipL (x.map fun c => .str [c]) ys) e2) E) : wI (zipSE fs) env QI E := by
  show wri (zipSE fs env) QI E
  unfold zipSE
  have h : wra (fs env) _ E := h
  cases h1 : fs env with
  | none => rw [h1] at h; exact h.elim
  | some r =>
    rw [h1] at h
    cases r with
    | ex x e => exact h
    | ok as e1 =>
      obtain ⟨x, ys, e2, h2, h3, q⟩ := h
      show wri ((frzs as e1).bind _) QI E
      rw [h2, Option.bind_some]
      show wri (if x.length = ys.length then some (ReI.ok (zipL (x.map fun c => D.str [c]) ys) e2) else none) QI E
      rw [if_pos h3]
      exact q
end
end
end Dw
namespace Dw
noncomputable section
open PySem PySem.Spec PyProof.Rows L2
variable [Glo] [Tabs]
def rListU (K : PySem.W.Frag) (w : World) : List V → Hp → VK → Prop := fun xs H Q => ∃ p es, xs = [.ref p] ∧ H p = some (dxO w p es) ∧ KeysOk K H es ∧ ∀ q, H q = none → Q (.ref q) (upd H q (.lst (es.map fun x => .ref x.2.1)))
theorem call_list_u {X : Cx} (hc : X.calm = true) : CallR X (.type "list") (rListU X.K X.w) := by
  intro pins s σ H xs us Q I r h
  obtain ⟨p, es, rfl, hD, ks, q⟩ := h
  obtain ⟨u, rfl, rx⟩ := vals1 r
  obtain rfl : u = Value.ref p := rx
  obtain ⟨m, lo, z⟩ := dx_at I hD ks
  obtain ⟨es', ep, raw, sz, at'⟩ := m.raw
  refine PySem.W.kdl_call (KdlSrc.rawDict (es := es') (ep := ep) lo) (I.ok.hd hc) raw (by rw [sz]; exact z) fun h' tk acc' c' hkeep hS hacc => ?_
  refine ⟨.ref s.heap.objs.size, upd H s.heap.objs.size (.lst (es.map fun x => .ref x.2.1)), I.laid hkeep (Nat.le_refl _) (show ObjOk X.prog X.w _ _ _ (.lst (es.map fun x => V.ref x.2.1)) from ⟨?_, acc'.toList, c', ?_, ?_⟩), rfl, q _ (I.hok.fresh (Nat.le_refl _))⟩
  · rw [List.length_map]; exact z
  · have el : acc'.toList.length = acc'.size := by simp
    refine vals_of_at (by rw [List.length_map, el, hacc.1, sz]) fun j x w h1 h2 => ?_
    obtain ⟨hi, e1⟩ := hacc.2 j w (by rw [← Array.getElem?_toList]; exact h2)
    obtain ⟨y, h3, h4, _⟩ := at' j hi
    rw [List.getElem?_map, h3] at h1
    cases h1
    rw [e1, h4]
    exact (rfl : Value.ref y.2.1 = Value.ref y.2.1)
  · rw [Array.toArray_toList]; exact hS
/-- the view d.values() at p -/
def valsO (p d : Addr) : HO := .ext fun h => h.IsValuesView p d
theorem valsO_ok {P : Program} {w : World} {H : Hp} {h : Heap} {p d : Addr} (e : h.get? p = some { cls := .type "dict_values", data := .fields #[.ref d] }) : ObjOk P w H h p (valsO p d) :=
  ⟨⟨_, e, rfl, rfl⟩, ⟨_, e⟩, fun h1 h2 x k => let ⟨o, ho, r⟩ := x; ⟨o, k o ho, r⟩⟩
def tValsU (K : PySem.W.Frag) (w : World) (to : TE) : TE := fun σ H Q => to σ H fun x H1 => ∃ (a : Addr) (es : List (NestedKey × Addr × Value)), x = .ref a ∧ H1 a = some (dxO w a es) ∧ KeysOk K H1 es ∧ ∀ p, H1 p = none → Q (.ref p) (upd H1 p (valsO p a))
theorem pe_valuesU {X : Cx} {o : Expr} {to : TE} {apos cpos : Pos} (ho : PE X o to)
    (hbase : attributeBase o "values" X.env (eval o X.env) = eval o X.env := by rfl) (hline : (apos.endLine == cpos.line) = true := by rfl) : PE X (.Call (.Attribute o "values" apos) [] [] cpos) (tValsU X.K X.w to) := by
  refine ⟨fun pins s σ H Q I h => ?_⟩
  refine wpAny_Call_method0_late hbase hline (thn (ho.run pins s σ H _ I h) fun v s1 ⟨x, H1, I1, r1, q1⟩ => ?_)
  obtain ⟨a, es, rfl, hD, ks, q⟩ := q1
  obtain rfl : v = Value.ref a := r1
  obtain ⟨m, hd, hl⟩ := dx_at I1 hD ks
  obtain ⟨es', ep, raw, sz, at'⟩ := m.raw
  refine ⟨"dict", "dict.values", PySem.F.plainAttrs_dict, PySem.F.slot_dict_values, PySem.F.type_dict_values, raw.typeIs, ?_, Calls.callWith_builtin rfl (PySem.evalArgs_none ?_)⟩
  · obtain ⟨ob, g1, g2, _⟩ := raw
    exact fun b e => by injection e with e; subst e; exact ⟨ob, g1, g2.2.1⟩
  · refine PySem.call_meetsIn PySem.F.slot_dict_values raw.typeIs PySem.F.entry_dict_values (PySem.F.args_dict_values_1 _) (meets_dict_values_raw a hd) ⟨⟨es', ep, raw⟩, ?_⟩
    have hf : H1 s1.heap.objs.size = none := I1.hok.fresh (Nat.le_refl _)
    exact ⟨.ref s1.heap.objs.size, upd H1 s1.heap.objs.size (valsO s1.heap.objs.size a), I1.laid (t' := s1.toks) (fun b u e => Heap.get?_push_of_some _ e) (Nat.le_refl _) (valsO_ok (Heap.get?_push_size _ rfl)), rfl, q _ hf⟩
def rListVU (K : PySem.W.Frag) (w : World) : List V → Hp → VK → Prop := fun xs H Q => ∃ (p a : Addr) (es : List (NestedKey × Addr × Value)) (us : List V), xs = [.ref p] ∧ H p = some (valsO p a) ∧ H a = some (dxO w a es) ∧ KeysOk K H es ∧ Vals us (es.map (·.2.2)) ∧ ∀ q, H q = none → Q (.ref q) (upd H q (.lst us))
theorem call_list_vu {X : Cx} (hc : X.calm = true) : CallR X (.type "list") (rListVU X.K X.w) := by
  intro pins s σ H xs us Q I r h
  obtain ⟨p, a, es, ws, rfl, hV, hD, ks, hv, q⟩ := h
  obtain ⟨u, rfl, rx⟩ := vals1 r
  obtain rfl : u = Value.ref p := rx
  obtain ⟨m, lo, z⟩ := dx_at I hD ks
  obtain ⟨es', ep, raw, sz, at'⟩ := m.raw
  have vw : s.heap.IsValuesView p a := (show ObjOk X.prog X.w H s.heap p (valsO p a) from I.hok p _ hV).1
  have hl : ws.length = es.length := by have := hv.length; rw [List.length_map] at this; exact this
  refine PySem.W.kdl_call (KdlSrc.rawValues (r := p) (d := a) (es := es') (ep := ep)) (I.ok.hd hc) ⟨vw, raw⟩ (by rw [sz]; exact z) fun h' tk acc' c' hkeep hS hacc => ?_
  refine ⟨.ref s.heap.objs.size, upd H s.heap.objs.size (.lst ws), I.laid hkeep (Nat.le_refl _) (show ObjOk X.prog X.w _ _ _ (.lst ws) from ⟨?_, acc'.toList, c', ?_, ?_⟩), rfl, q _ (I.hok.fresh (Nat.le_refl _))⟩
  · rw [hl]; exact z
  · have el : acc'.toList.length = acc'.size := by simp
    refine vals_of_at (by rw [hl, el, hacc.1, sz]) fun j x w h1 h2 => ?_
    obtain ⟨hi, e1⟩ := hacc.2 j w (by rw [← Array.getElem?_toList]; exact h2)
    obtain ⟨y, h3, _, h4, _⟩ := at' j hi
    obtain ⟨u2, e3, r3⟩ := hv.get h1
    rw [List.getElem?_map, h3] at e3
    cases e3
    rw [e1, h4]
    exact r3
  · rw [Array.toArray_toList]; exact hS
def tListVU (K : PySem.W.Frag) (w : World) (to : TE) : TE := fun σ H Q => tValsU K w to σ H fun x H1 => rListVU K w [x] H1 Q
theorem pe_listVU {X : Cx} {o : Expr} {to : TE} {apos cpos p pos : Pos} (hc : X.calm = true) (hm : X.mg "list" = none) (ho : PE X o to) (hg : Gl X "list" := by rfl)
    (hbase : attributeBase o "values" X.env (eval o X.env) = eval o X.env := by rfl) (hline : (apos.endLine == cpos.line) = true := by rfl)
    (hs1 : starEach [.Call (.Attribute o "values" apos) [] [] cpos] X.env = (false, eval (.Call (.Attribute o "values" apos) [] [] cpos) X.env) :: starEach [] X.env := by rfl) :
    PE X (.Call (.Name "list" p) [.Call (.Attribute o "values" apos) [] [] cpos] [] pos) (tListVU X.K X.w to) := by
  refine ⟨fun pins s σ H Q I h => ?_⟩
  refine Call_ (ld_blt I hg hm PyProof.Rows.boot_list (PyProof.Rows.callWith_type1 (PyProof.Rows.args_cons (thn ((pe_valuesU ho hbase hline).run pins s σ H _ I h) fun u s1 ⟨v, H1, I1, r1, q1⟩ => PyProof.Rows.args_nil ?_) hs1) hs1 rfl))
  exact call_list_vu hc pins s1 σ H1 [v] [u] Q I1 (.cons r1 .nil) q1
def listU : List D → Option RV
  | [.dcu ks _] => some (.own (.lst ks))
  | xs => listH xs
theorem snd_listU {K : PySem.W.Frag} : SndC K listU (fun xs H Q => ((rListC K xs H Q ∨ rListT xs H Q) ∨ rListD xs H Q) ∨ rListU K Glo.w xs H Q) := by
  intro W F R σ H env Q xs vs z S h e p
  match xs, h, e with
  | [.dcu ks us], h, e =>
    cases e
    obtain ⟨v, rfl, a, es, us', rfl, hs, c1, c2, c3, c4⟩ := vw1 h
    have U : UOk K F es us' ks us := ⟨c1, c2, c3, c4⟩
    exact .inr ⟨a, es, rfl, hs, U.keys S.sub, fun q hq => post_new S p hq c2⟩
  | [], h, e => exact .inl (snd_listH S h (xs := []) e p)
  | [.str s], h, e => exact .inl (snd_listH S h (xs := [.str s]) e p)
  | [.non], h, e => exact .inl (snd_listH S h (xs := [.non]) e p)
  | [.bl b], h, e => exact .inl (snd_listH S h (xs := [.bl b]) e p)
  | [.int i], h, e => exact .inl (snd_listH S h (xs := [.int i]) e p)
  | [.lst y], h, e => exact .inl (snd_listH S h (xs := [.lst y]) e p)
  | [.tup y], h, e => exact .inl (snd_listH S h (xs := [.tup y]) e p)
  | [.dct a b], h, e => exact .inl (snd_listH S h (xs := [.dct a b]) e p)
  | [.ins a b c], h, e => exact .inl (snd_listH S h (xs := [.ins a b c]) e p)
  | a :: b :: c, h, e => exact .inl (snd_listH S h (xs := a :: b :: c) (by cases a <;> exact e) p)
theorem cr_listU {X : Cx} (hW : X.w = Glo.w) (hc : X.calm = true) : CallR X (.type "list") (fun xs H Q => ((rListC X.K xs H Q ∨ rListT xs H Q) ∨ rListD xs H Q) ∨ rListU X.K Glo.w xs H Q) := by
  rw [← hW]
  exact Dw.CallR.or (cr_listH hc) (call_list_u hc)
def valsE (fo : SE) : SE := fun env => bindE (fo env) fun a env1 => (pk a env1).bind fun d => match d with
  | .dcu _ vs => some (.ok (.own (.lst vs)) env1)
  | _ => none
section
variable {K : PySem.W.Frag} {W : WX} {σ : L2.St} {H : Hp} {Q : VK}
theorem dE_vals {fo : SE} (h : dE K W (valsE fo) σ H Q) : tListVU K Glo.w (dE K W fo) σ H Q := by
  obtain ⟨env, F, R, S, q⟩ := of_dE h
  refine dE_of S (atE_bind q fun a env1 F1 v H1 e1 S1 rv q1 => ?_)
  obtain ⟨r', e, p⟩ := q1
  have e : ((pk a env1).bind fun d => match d with
    | .dcu _ vs => some (Re.ok (.own (.lst vs)) env1)
    | _ => none) = some r' := e
  rw [Option.bind_eq_some_iff] at e
  obtain ⟨d, hb, e⟩ := e
  cases d with
  | dcu ks vs =>
    cases e
    obtain ⟨b, es, us, rfl, hs, c1, c2, c3, c4⟩ := pk_vw S1 rv hb
    have U : UOk K F1 es us ks vs := ⟨c1, c2, c3, c4⟩
    refine ⟨b, es, rfl, hs, U.keys S1.sub, fun p0 hp0 => ?_⟩
    have S2 := S1.freshH (o := valsO p0 b) hp0
    have hne : b ≠ p0 := fun z => by rw [z, hp0] at hs; cases hs
    refine ⟨p0, b, es, us, rfl, upd_same, by rw [upd_ne hne]; exact hs, U.keys S2.sub, c3, fun q0 hq0 => post_new S2 p hq0 c4⟩
  | _ => cases e
end
section
variable {X : Cx} {W : WX} {o : Expr} {fo : SE} {apos cpos p pos : Pos}
theorem pd_listVU (hW : X.w = Glo.w) (hc : X.calm = true) (hm : X.mg "list" = none) (ho : PE X o (dE X.K W fo)) (hg : Gl X "list" := by rfl)
    (hbase : attributeBase o "values" X.env (eval o X.env) = eval o X.env := by rfl) (hline : (apos.endLine == cpos.line) = true := by rfl)
    (hs1 : starEach [.Call (.Attribute o "values" apos) [] [] cpos] X.env = (false, eval (.Call (.Attribute o "values" apos) [] [] cpos) X.env) :: starEach [] X.env := by rfl) :
    PE X (.Call (.Name "list" p) [.Call (.Attribute o "values" apos) [] [] cpos] [] pos) (dE X.K W (valsE fo)) :=
  (pe_listVU hc hm ho hg hbase hline hs1).wk fun _ _ _ q => by rw [hW]; exact dE_vals q
end
section
variable {env : Sl} {fo : SE} {Q : QE} {E : QX}
theorem w_vals (h : wE fo env (fun u e1 => wr ((pk u e1).bind fun d => match d with
  | .dcu _ vs => some (.ok (.own (.lst vs)) e1)
  | _ => none) Q E) E) : wE (valsE fo) env Q E := wr_bind h
end
end
end Dw
namespace P_talkalike_k09_all_classes
noncomputable section
open PySem PySem.Spec PyProof.Rows L2 Dw
variable [GI : Glo] [TI : Tabs]
def topS (i : Nat) : Stmt := PySem.Challenge.pw_talkalike_k09_all_classes.main.body.getD i (.Pass ⟨0, 0, 0, 0⟩)
abbrev s_without_repeats : Stmt := topS 4
theorem sc_without_repeats : FnScope ["items", "item"] ["items"] (defScope s_without_repeats) := ⟨rfl, rfl, rfl, by decide +kernel, rfl, by decide +kernel, by decide +kernel⟩
def k_without_repeats_1 : SE :=
    (varE 1)
def e_without_repeats_2 : SE :=
    (constE (.bl true))
def b_without_repeats : SS :=
    (retS (callE listU (consA (cmpN (emU k_without_repeats_1 e_without_repeats_2) (.dcu [] []) ⟨(srcE (varE 0)), (.nm 1), none, [1]⟩ []) nilA)))
def m_without_repeats : List SV → Option FR := defM 1 1 b_without_repeats
theorem ok_without_repeats {P : Program} {w : World} {K : PySem.W.Frag} {mg : Str → Option Value} {base : Heap} {f : Addr} {fd : FuncData} (F : Fun K "without_repeats" "without_repeats" s_without_repeats f fd) (z_list : mg "list" = none) (hW : w = Glo.w)  : FnOk P w K mg base CX0 1 f fd ["items"] (spD K 1 m_without_repeats) :=
  fnd (k := 0) (n := 1) F sc_without_repeats rfl fun cdv A outer s H E hr =>
    (pss_done (ps_dret (pd_callTy (cr_listU hW rfl) snd_listU z_list rfl (pa_dcons (pd_dcU1 (own := [("item", 1)]) hW (by rfl) rfl sc_without_repeats.nd (u8_of (r65 hr)) (blk_of (N := ["items", "item"]) (sc := defScope s_without_repeats) (by decide +kernel)) (by rfl) (pi_dsrc (pd_var (pv 0))) (fun s H C cl fp => ⟨(pg_dnm sc_without_repeats.nd rfl (.inl rfl)), pts_dnil⟩)  (fun s H C cl fp => (pd_var (pv 1))) (fun s H C cl fp => pd_bl)) pa_dnil))))
abbrev s_start_lengths : Stmt := topS 7
theorem sc_start_lengths : FnScope ["pattern", "stars"] ["pattern"] (defScope s_start_lengths) := ⟨rfl, rfl, rfl, by decide +kernel, rfl, by decide +kernel, by decide +kernel⟩
def b_start_lengths : SS :=
    (seqS (asgS 1 (two (op2 subD) (callE lenD (consA (varE 0) nilA)) (callE lenD (consA (metE "str" (textM lstripL) (varE 0) (consA (constE (.str [42])) nilA)) nilA))))
    (retS (rgD tupRV (two (op2 addD) (varE 1) (constE (.int 1))))))
def m_start_lengths : List SV → Option FR := defM 1 1 b_start_lengths
theorem ok_start_lengths {P : Program} {w : World} {K : PySem.W.Frag} {mg : Str → Option Value} {base : Heap} {f : Addr} {fd : FuncData} (F : Fun K "start_lengths" "start_lengths" s_start_lengths f fd) (z_len : mg "len" = none) (z_range : mg "range" = none) (z_tuple : mg "tuple" = none)  : FnOk P w K mg base CX0 1 f fd ["pattern"] (spD K 1 m_start_lengths) :=
  fnd (k := 0) (n := 1) F sc_start_lengths rfl fun cdv A outer s H E hr =>
    (pss_dcons (ps_dset (i := 1) sc_start_lengths.nd rfl (.inl rfl) (pd_sub (pd_callB cr_len snd_len z_len rfl (pa_dcons (pd_var (pv 0)) pa_dnil)) (pd_callB cr_len snd_len z_len rfl (pa_dcons (pd_met (.inl rfl) PySem.F.plainAttrs_str PySem.F.slot_str_lstrip PySem.F.type_str_lstrip mt_lstripChars snd_lstrip (pd_var (pv 0)) (pa_dcons (pd_str [42] (by rfl)) pa_dnil)) pa_dnil))))
    (pss_done (ps_dret (pd_tupRg rfl z_tuple z_range (pd_add (pd_var (pv 1)) pd_int)))))
abbrev s_next_lengths : Stmt := topS 8
theorem sc_next_lengths : FnScope ["pattern", "lengths", "letter", "found", "matched", "index", "sign"] ["pattern", "lengths", "letter"] (defScope s_next_lengths) := ⟨rfl, rfl, rfl, by decide +kernel, rfl, by decide +kernel, by decide +kernel⟩
def l_next_lengths_1 : SS :=
    (seqS (iteS (two (op2 eqD) (varE 6) (constE (.str [42]))) (asgS 4 (orE (varE 4) (two (op2 inG) (two (op2 addD) (varE 5) (constE (.int 1))) (varE 1)))) (asgS 4 (andE (two (op2 inG) (varE 5) (varE 1)) (two (op2 inG) (varE 6) (tupE (consA (constE (.str [63])) (consA (varE 2) nilA)))))))
    (iteS (varE 4) (exprS (mutE appU (varE 3) (consA (two (op2 addD) (varE 5) (constE (.int 1))) nilA))) skipS))
def b_next_lengths : SS :=
    (seqS (asgS 3 (lstE nilA))
    (seqS (asgS 4 (constE (.bl false)))
    (seqS (forS (enumE (consA (varE 0) nilA)) (.two 5 6) l_next_lengths_1)
    (retS (callE tupleC (consA (varE 3) nilA))))))
def m_next_lengths : List SV → Option FR := defM 3 4 b_next_lengths
theorem ok_next_lengths {P : Program} {w : World} {K : PySem.W.Frag} {mg : Str → Option Value} {base : Heap} {f : Addr} {fd : FuncData} (F : Fun K "next_lengths" "next_lengths" s_next_lengths f fd) (z_enumerate : mg "enumerate" = none) (z_tuple : mg "tuple" = none)  : FnOk P w K mg base CX0 1 f fd ["pattern", "lengths", "letter"] (spD K 3 m_next_lengths) :=
  fnd (k := 0) (n := 4) F sc_next_lengths rfl fun cdv A outer s H E hr =>
    (pss_dcons (ps_dset (i := 3) sc_next_lengths.nd rfl (.inl rfl) (pd_lst pa_dnil))
    (pss_dcons (ps_dset (i := 4) sc_next_lengths.nd rfl (.inl rfl) pd_bl)
    (pss_dcons (ps_dfor PassesOwn.never rfl (pi_denum z_enumerate (pa_dcons (pd_var (pv 0)) pa_dnil)) (pg_dtwo sc_next_lengths.nd rfl rfl (.inl rfl) rfl (.inl rfl)) (pss_dcons (ps_dif (pt_eqd hr.units (pd_var (pv 6)) (pd_str [42] (by rfl))) (pss_done (ps_dset (i := 4) sc_next_lengths.nd rfl (.inl rfl) (Dw.pd_or (pd_var (pv 4)) (Dw.pd_one (pd_inG (r65 hr) (pd_add (pd_var (pv 5)) pd_int) (pd_var (pv 1))))))) (pss_done (ps_dset (i := 4) sc_next_lengths.nd rfl (.inl rfl) (Dw.pd_and (pd_inG (r65 hr) (pd_var (pv 5)) (pd_var (pv 1))) (Dw.pd_one (pd_inG (r65 hr) (pd_var (pv 6)) (pd_tup (pa_dcons (pd_str [63] (by rfl)) (pa_dcons (pd_var (pv 2)) pa_dnil)))))))))
    (pss_done (ps_dif (pt_d (pd_var (pv 4))) (pss_done (ps_dexpr (pd_append (pd_var (pv 3)) (pa_dcons (pd_add (pd_var (pv 5)) pd_int) pa_dnil)))) pss_dnil))))
    (pss_done (ps_dret (pd_callTy cr_tuple snd_tuple z_tuple rfl (pa_dcons (pd_var (pv 3)) pa_dnil)))))))
abbrev s_start_state : Stmt := topS 11
theorem sc_start_state : FnScope ["patterns", "pattern"] ["patterns"] (defScope s_start_state) := ⟨rfl, rfl, rfl, by decide +kernel, rfl, by decide +kernel, by decide +kernel⟩
def e_start_state_1 : SE :=
    (callD m_start_lengths [] (consA (varE 1) nilA))
def b_start_state : SS :=
    (retS (callE tupleC (consA (compE [1] (srcE (varE 0)) (.nm 1) none e_start_state_1) nilA)))
def m_start_state : List SV → Option FR := defM 1 1 b_start_state
theorem ok_start_state {P : Program} {w : World} {K : PySem.W.Frag} {mg : Str → Option Value} {base : Heap} {f : Addr} {fd : FuncData} (F : Fun K "start_state" "start_state" s_start_state f fd) (z_tuple : mg "tuple" = none) (c_start_lengths : Def P w K mg base 1 "start_lengths" 1 m_start_lengths []) : FnOk P w K mg base CX0 2 f fd ["patterns"] (spD K 1 m_start_state) :=
  fnd (k := 1) (n := 1) F sc_start_state rfl fun cdv A outer s H E hr =>
    (pss_done (ps_dret (pd_callTy cr_tuple snd_tuple z_tuple rfl (pa_dcons (pd_comp (own := [("pattern", 1)]) (by rfl) sc_start_state.nd (blk_of (N := ["patterns", "pattern"]) (sc := defScope s_start_state) (by decide +kernel)) (by rfl) (pi_dsrc (pd_var (pv 0))) (fun s H C cl fp => (pg_dnm sc_start_state.nd rfl (.inl rfl))) (fun s H C cl fp => pts_dnil) (fun s H C cl fp => (pd_callN c_start_lengths hr (by decide) (pa_dcons (pd_var (pv 1)) pa_dnil)))) pa_dnil))))
abbrev s_next_state : Stmt := topS 12
theorem sc_next_state : FnScope ["patterns", "state", "letter", "pattern", "lengths"] ["patterns", "state", "letter"] (defScope s_next_state) := ⟨rfl, rfl, rfl, by decide +kernel, rfl, by decide +kernel, by decide +kernel⟩
def e_next_state_1 : SE :=
    (callD m_next_lengths [] (consA (varE 3) (consA (varE 4) (consA (varE 2) nilA))))
def b_next_state : SS :=
    (retS (callE tupleC (consA (compE [3, 4] (zipE (consA (varE 0) (consA (varE 1) nilA))) (.two 3 4) none e_next_state_1) nilA)))
def m_next_state : List SV → Option FR := defM 3 2 b_next_state
theorem ok_next_state {P : Program} {w : World} {K : PySem.W.Frag} {mg : Str → Option Value} {base : Heap} {f : Addr} {fd : FuncData} (F : Fun K "next_state" "next_state" s_next_state f fd) (z_tuple : mg "tuple" = none) (z_zip : mg "zip" = none) (c_next_lengths : Def P w K mg base 1 "next_lengths" 3 m_next_lengths []) : FnOk P w K mg base CX0 2 f fd ["patterns", "state", "letter"] (spD K 3 m_next_state) :=
  fnd (k := 1) (n := 2) F sc_next_state rfl fun cdv A outer s H E hr =>
    (pss_done (ps_dret (pd_callTy cr_tuple snd_tuple z_tuple rfl (pa_dcons (pd_comp (own := [("pattern", 3), ("lengths", 4)]) (by rfl) sc_next_state.nd (blk_of (N := ["patterns", "state", "letter", "pattern", "lengths"]) (sc := defScope s_next_state) (by decide +kernel)) (by rfl) (pi_dzip z_zip (pa_dcons (pd_var (pv 0)) (pa_dcons (pd_var (pv 1)) pa_dnil))) (fun s H C cl fp => (pg_dtwo sc_next_state.nd rfl rfl (.inl rfl) rfl (.inl rfl))) (fun s H C cl fp => pts_dnil) (fun s H C cl fp => (pd_callN c_next_lengths hr (by decide) (pa_dcons (pd_var (pv 3)) (pa_dcons (pd_var (pv 4)) (pa_dcons (pd_var (pv 2)) pa_dnil)))))) pa_dnil))))
abbrev s_accepted : Stmt := topS 13
theorem sc_accepted : FnScope ["patterns", "state", "pattern", "lengths"] ["patterns", "state"] (defScope s_accepted) := ⟨rfl, rfl, rfl, by decide +kernel, rfl, by decide +kernel, by decide +kernel⟩
def e_accepted_1 : SE :=
    (two (op2 inG) (callE lenD (consA (varE 2) nilA)) (varE 3))
def b_accepted : SS :=
    (retS (callE tupleC (consA (compE [2, 3] (zipE (consA (varE 0) (consA (varE 1) nilA))) (.two 2 3) none e_accepted_1) nilA)))
def m_accepted : List SV → Option FR := defM 2 2 b_accepted
theorem ok_accepted {P : Program} {w : World} {K : PySem.W.Frag} {mg : Str → Option Value} {base : Heap} {f : Addr} {fd : FuncData} (F : Fun K "accepted" "accepted" s_accepted f fd) (z_len : mg "len" = none) (z_tuple : mg "tuple" = none) (z_zip : mg "zip" = none)  : FnOk P w K mg base CX0 1 f fd ["patterns", "state"] (spD K 2 m_accepted) :=
  fnd (k := 0) (n := 2) F sc_accepted rfl fun cdv A outer s H E hr =>
    (pss_done (ps_dret (pd_callTy cr_tuple snd_tuple z_tuple rfl (pa_dcons (pd_comp (own := [("pattern", 2), ("lengths", 3)]) (by rfl) sc_accepted.nd (blk_of (N := ["patterns", "state", "pattern", "lengths"]) (sc := defScope s_accepted) (by decide +kernel)) (by rfl) (pi_dzip z_zip (pa_dcons (pd_var (pv 0)) (pa_dcons (pd_var (pv 1)) pa_dnil))) (fun s H C cl fp => (pg_dtwo sc_accepted.nd rfl rfl (.inl rfl) rfl (.inl rfl))) (fun s H C cl fp => pts_dnil) (fun s H C cl fp => (pd_inG (r65 hr) (pd_callB cr_len snd_len z_len rfl (pa_dcons (pd_var (pv 2)) pa_dnil)) (pd_var (pv 3))))) pa_dnil))))
abbrev s_states_behind : Stmt := topS 15
theorem sc_states_behind : FnScope ["patterns", "state", "named", "other", "found", "letter"] ["patterns", "state"] (defScope s_states_behind) := ⟨rfl, rfl, rfl, by decide +kernel, rfl, by decide +kernel, by decide +kernel⟩
def l_states_behind_1 : SS :=
    (iteS (two (op2 inG) (varE 5) (varE 2)) (exprS (mutE appU (varE 4) (consA (callD m_next_state [] (consA (varE 0) (consA (varE 1) (consA (varE 5) nilA)))) nilA))) (seqS (iteS (two (op2 isD) (varE 3) (constE .non)) (asgS 3 (callD m_next_state [] (consA (varE 0) (consA (varE 1) (consA (varE 5) nilA))))) skipS)
    (exprS (mutE appU (varE 4) (consA (varE 3) nilA)))))
def b_states_behind : SS :=
    (seqS (asgS 2 (metE "str" joinD (constE (.str [])) (consA (varE 0) nilA)))
    (seqS (asgS 3 (constE .non))
    (seqS (asgS 4 (lstE nilA))
    (seqS (forS (srcE (constE (.str [97, 98, 99, 100, 101, 102, 103, 104, 105, 106, 107, 108, 109, 110, 111, 112, 113, 114, 115, 116, 117, 118, 119, 120, 121, 122]))) (.nm 5) l_states_behind_1)
    (retS (varE 4))))))
def m_states_behind : List SV → Option FR := defM 2 4 b_states_behind
theorem ok_states_behind {P : Program} {w : World} {K : PySem.W.Frag} {mg : Str → Option Value} {base : Heap} {f : Addr} {fd : FuncData} (F : Fun K "states_behind" "states_behind" s_states_behind f fd) (cs_LETTERS : ∃ t, mg "LETTERS" = some (.str (mk [97, 98, 99, 100, 101, 102, 103, 104, 105, 106, 107, 108, 109, 110, 111, 112, 113, 114, 115, 116, 117, 118, 119, 120, 121, 122]) t)) (c_next_state : Def P w K mg base 2 "next_state" 3 m_next_state []) : FnOk P w K mg base CX0 3 f fd ["patterns", "state"] (spD K 2 m_states_behind) :=
  fnd (k := 2) (n := 4) F sc_states_behind rfl fun cdv A outer s H E hr =>
    (pss_dcons (ps_dset (i := 2) sc_states_behind.nd rfl (.inl rfl) (pd_join (pd_str [] (by rfl)) (pa_dcons (pd_var (pv 0)) pa_dnil)))
    (pss_dcons (ps_dset (i := 3) sc_states_behind.nd rfl (.inl rfl) pd_non)
    (pss_dcons (ps_dset (i := 4) sc_states_behind.nd rfl (.inl rfl) (pd_lst pa_dnil))
    (pss_dcons (ps_dfor PassesOwn.never rfl (pi_dsrc (pd_cstr cs_LETTERS)) (pg_dnm sc_states_behind.nd rfl (.inl rfl)) (pss_done (ps_dif (pt_inGd (r65 hr) (pd_var (pv 5)) (pd_var (pv 2))) (pss_done (ps_dexpr (pd_append (pd_var (pv 4)) (pa_dcons (pd_callN c_next_state hr (by decide) (pa_dcons (pd_var (pv 0)) (pa_dcons (pd_var (pv 1)) (pa_dcons (pd_var (pv 5)) pa_dnil)))) pa_dnil)))) (pss_dcons (ps_dif (pt_isd (pd_var (pv 3)) pd_non) (pss_done (ps_dset (i := 3) sc_states_behind.nd rfl (.inl rfl) (pd_callN c_next_state hr (by decide) (pa_dcons (pd_var (pv 0)) (pa_dcons (pd_var (pv 1)) (pa_dcons (pd_var (pv 5)) pa_dnil)))))) pss_dnil)
    (pss_done (ps_dexpr (pd_append (pd_var (pv 4)) (pa_dcons (pd_var (pv 3)) pa_dnil))))))))
    (pss_done (ps_dret (pd_var (pv 4))))))))
abbrev s_state_graph : Stmt := topS 14
theorem sc_state_graph : FnScope ["patterns", "states", "numbers", "steps", "behind", "state"] ["patterns"] (defScope s_state_graph) := ⟨rfl, rfl, rfl, by decide +kernel, rfl, by decide +kernel, by decide +kernel⟩
def l_state_graph_1 : SS :=
    (iteS (two (op2 notInU) (varE 5) (varE 2)) (seqS (iteS (two (op2 eqD) (callE lenD (consA (varE 1) nilA)) (constE (.int 400))) (fun _ => none) skipS)
    (seqS (setUS 2 (varE 5) (callE lenD (consA (varE 1) nilA)))
    (exprS (mutE appU (varE 1) (consA (varE 5) nilA))))) skipS)
def e_state_graph_2 : SE :=
    (two (op2 getU) (varE 2) (varE 5))
def l_state_graph_3 : SS :=
    (seqS (asgS 4 (callD m_states_behind [] (consA (varE 0) (consA (two (op2 getD) (varE 1) (callE lenD (consA (varE 3) nilA))) nilA))))
    (seqS (forS (srcE (varE 4)) (.nm 5) l_state_graph_1)
    (exprS (mutE appU (varE 3) (consA (compE [5] (srcE (varE 4)) (.nm 5) none e_state_graph_2) nilA)))))
def b_state_graph : SS :=
    (seqS (asgS 1 (lstE (consA (callD m_start_state [] (consA (varE 0) nilA)) nilA)))
    (seqS (asgS 2 (dispU1 (two (op2 getD) (varE 1) (constE (.int 0))) (constE (.int 0))))
    (seqS (asgS 3 (lstE nilA))
    (seqS (whileS (two (op2 ltG) (callE lenD (consA (varE 3) nilA)) (callE lenD (consA (varE 1) nilA))) l_state_graph_3)
    (retS (tupE (consA (varE 1) (consA (varE 3) nilA))))))))
def m_state_graph : List SV → Option FR := defM 1 5 b_state_graph
theorem ok_state_graph {P : Program} {w : World} {K : PySem.W.Frag} {mg : Str → Option Value} {base : Heap} {f : Addr} {fd : FuncData} (F : Fun K "state_graph" "state_graph" s_state_graph f fd) (z_len : mg "len" = none) (cs_MOST_STATES : ∃ t, mg "MOST_STATES" = some (.int 400 t)) (hW : w = Glo.w) (c_start_state : Def P w K mg base 2 "start_state" 1 m_start_state []) (c_states_behind : Def P w K mg base 3 "states_behind" 2 m_states_behind []) : FnOk P w K mg base CX0 4 f fd ["patterns"] (spD K 1 m_state_graph) :=
  fnd (k := 3) (n := 5) F sc_state_graph rfl fun cdv A outer s H E hr =>
    (pss_dcons (ps_dset (i := 1) sc_state_graph.nd rfl (.inl rfl) (pd_lst (pa_dcons (pd_callN c_start_state hr (by decide) (pa_dcons (pd_var (pv 0)) pa_dnil)) pa_dnil)))
    (pss_dcons (ps_dset (i := 2) sc_state_graph.nd rfl (.inr rfl) (pd_dispU hW hr (pd_get (pd_var (pv 1)) pd_int) pd_int))
    (pss_dcons (ps_dset (i := 3) sc_state_graph.nd rfl (.inl rfl) (pd_lst pa_dnil))
    (pss_dcons (ps_dwhile PassesOwn.never (pt_ltg hr.units (pd_callB cr_len snd_len z_len rfl (pa_dcons (pd_var (pv 3)) pa_dnil)) (pd_callB cr_len snd_len z_len rfl (pa_dcons (pd_var (pv 1)) pa_dnil))) (pss_dcons (ps_dset (i := 4) sc_state_graph.nd rfl (.inl rfl) (pd_callN c_states_behind hr (by decide) (pa_dcons (pd_var (pv 0)) (pa_dcons (pd_get (pd_var (pv 1)) (pd_callB cr_len snd_len z_len rfl (pa_dcons (pd_var (pv 3)) pa_dnil))) pa_dnil))))
    (pss_dcons (ps_dfor PassesOwn.never rfl (pi_dsrc (pd_var (pv 4))) (pg_dnm sc_state_graph.nd rfl (.inl rfl)) (pss_done (ps_dif (pt_notInU hW hr (pd_var (pv 5)) (pd_var (pv 2))) (pss_dcons (ps_dif (pt_eqd hr.units (pd_callB cr_len snd_len z_len rfl (pa_dcons (pd_var (pv 1)) pa_dnil)) (pd_cint cs_MOST_STATES)) (pss_done ps_und) pss_dnil)
    (pss_dcons (ps_setUS hW hr (pd_var (pv 2)) (pd_var (pv 5)) (pd_callB cr_len snd_len z_len rfl (pa_dcons (pd_var (pv 1)) pa_dnil)))
    (pss_done (ps_dexpr (pd_append (pd_var (pv 1)) (pa_dcons (pd_var (pv 5)) pa_dnil)))))) pss_dnil)))
    (pss_done (ps_dexpr (pd_append (pd_var (pv 3)) (pa_dcons (pd_comp (own := [("state", 5)]) (by rfl) sc_state_graph.nd (blk_of (N := ["patterns", "states", "numbers", "steps", "behind", "state"]) (sc := defScope s_state_graph) (by decide +kernel)) (by rfl) (pi_dsrc (pd_var (pv 4))) (fun s H C cl fp => (pg_dnm sc_state_graph.nd rfl (.inl rfl))) (fun s H C cl fp => pts_dnil) (fun s H C cl fp => (pd_getU hW hr (pd_var (pv 2)) (pd_var (pv 5))))) pa_dnil)))))))
    (pss_done (ps_dret (pd_tup (pa_dcons (pd_var (pv 1)) (pa_dcons (pd_var (pv 3)) pa_dnil)))))))))
abbrev s_classes_of_states : Stmt := topS 22
theorem sc_classes_of_states : FnScope ["patterns", "states", "state"] ["patterns", "states"] (defScope s_classes_of_states) := ⟨rfl, rfl, rfl, by decide +kernel, rfl, by decide +kernel, by decide +kernel⟩
def e_classes_of_states_1 : SE :=
    (callD m_accepted [] (consA (varE 0) (consA (varE 2) nilA)))
def b_classes_of_states : SS :=
    (retS (compE [2] (srcE (varE 1)) (.nm 2) none e_classes_of_states_1))
def m_classes_of_states : List SV → Option FR := defM 2 1 b_classes_of_states
theorem ok_classes_of_states {P : Program} {w : World} {K : PySem.W.Frag} {mg : Str → Option Value} {base : Heap} {f : Addr} {fd : FuncData} (F : Fun K "classes_of_states" "classes_of_states" s_classes_of_states f fd)  (c_accepted : Def P w K mg base 1 "accepted" 2 m_accepted []) : FnOk P w K mg base CX0 2 f fd ["patterns", "states"] (spD K 2 m_classes_of_states) :=
  fnd (k := 1) (n := 1) F sc_classes_of_states rfl fun cdv A outer s H E hr =>
    (pss_done (ps_dret (pd_comp (own := [("state", 2)]) (by rfl) sc_classes_of_states.nd (blk_of (N := ["patterns", "states", "state"]) (sc := defScope s_classes_of_states) (by decide +kernel)) (by rfl) (pi_dsrc (pd_var (pv 1))) (fun s H C cl fp => (pg_dnm sc_classes_of_states.nd rfl (.inl rfl))) (fun s H C cl fp => pts_dnil) (fun s H C cl fp => (pd_callN c_accepted hr (by decide) (pa_dcons (pd_var (pv 0)) (pa_dcons (pd_var (pv 2)) pa_dnil)))))))
abbrev s_all_classes : Stmt := topS 17
theorem sc_all_classes : FnScope ["patterns", "states", "_"] ["patterns"] (defScope s_all_classes) := ⟨rfl, rfl, rfl, by decide +kernel, rfl, by decide +kernel, by decide +kernel⟩
def b_all_classes : SS :=
    (seqS (asgT (.two 1 2) (callD m_state_graph [] (consA (varE 0) nilA)))
    (retS (callD m_without_repeats [] (consA (callD m_classes_of_states [] (consA (varE 0) (consA (varE 1) nilA))) nilA))))
def m_all_classes : List SV → Option FR := defM 1 2 b_all_classes
theorem ok_all_classes {P : Program} {w : World} {K : PySem.W.Frag} {mg : Str → Option Value} {base : Heap} {f : Addr} {fd : FuncData} (F : Fun K "all_classes" "all_classes" s_all_classes f fd)  (c_state_graph : Def P w K mg base 4 "state_graph" 1 m_state_graph []) (c_classes_of_states : Def P w K mg base 2 "classes_of_states" 2 m_classes_of_states []) (c_without_repeats : Def P w K mg base 1 "without_repeats" 1 m_without_repeats []) : FnOk P w K mg base CX0 5 f fd ["patterns"] (spD K 1 m_all_classes) :=
  fnd (k := 4) (n := 2) F sc_all_classes rfl fun cdv A outer s H E hr =>
    (pss_dcons (ps_dasgT (pd_callN c_state_graph hr (by decide) (pa_dcons (pd_var (pv 0)) pa_dnil)) (pg_dtwo sc_all_classes.nd rfl rfl (.inl rfl) rfl (.inl rfl)))
    (pss_done (ps_dret (pd_callN c_without_repeats hr (by decide) (pa_dcons (pd_callN c_classes_of_states hr (by decide) (pa_dcons (pd_var (pv 0)) (pa_dcons (pd_var (pv 1)) pa_dnil))) pa_dnil)))))
abbrev s_texts_of_length : Stmt := topS 24
theorem sc_texts_of_length : FnScope ["steps", "ahead", "count", "rows", "reaching", "longer", "text", "state", "letter", "index", "_"] ["steps", "ahead", "count"] (defScope s_texts_of_length) := ⟨rfl, rfl, rfl, by decide +kernel, rfl, by decide +kernel, by decide +kernel⟩
def l_texts_of_length_1 : SS :=
    (iteS (two (op2 getD) (varE 4) (varE 9)) (exprS (mutE appU (varE 5) (consA (tupE (consA (two (op2 addD) (varE 6) (varE 8)) (consA (varE 9) nilA))) nilA))) skipS)
def l_texts_of_length_2 : SS :=
    (forS (zipSE (consA (constE (.str [97, 98, 99, 100, 101, 102, 103, 104, 105, 106, 107, 108, 109, 110, 111, 112, 113, 114, 115, 116, 117, 118, 119, 120, 121, 122])) (consA (two (op2 getD) (varE 0) (varE 7)) nilA))) (.two 8 9) l_texts_of_length_1)
def l_texts_of_length_3 : SS :=
    (seqS (asgS 5 (lstE nilA))
    (seqS (forS (srcE (varE 3)) (.two 6 7) l_texts_of_length_2)
    (asgS 3 (sliceE (varE 5) none (some (varE 2))))))
def e_texts_of_length_4 : SE :=
    (varE 6)
def b_texts_of_length : SS :=
    (seqS (asgS 3 (ifE (two (op2 getD) (two (op2 getD) (varE 1) (oneE negD (constE (.int 1)))) (constE (.int 0))) (lstE (consA (tupE (consA (constE (.str [])) (consA (constE (.int 0)) nilA))) nilA)) (lstE nilA)))
    (seqS (forS (revI (sliceE (varE 1) none (some (oneE negD (constE (.int 1)))))) (.nm 4) l_texts_of_length_3)
    (retS (compE [6, 10] (srcE (varE 3)) (.two 6 10) none e_texts_of_length_4))))
def m_texts_of_length : List SV → Option FR := defM 3 8 b_texts_of_length
theorem ok_texts_of_length {P : Program} {w : World} {K : PySem.W.Frag} {mg : Str → Option Value} {base : Heap} {f : Addr} {fd : FuncData} (F : Fun K "texts_of_length" "texts_of_length" s_texts_of_length f fd) (z_reversed : mg "reversed" = none) (z_zip : mg "zip" = none) (cs_LETTERS : ∃ t, mg "LETTERS" = some (.str (mk [97, 98, 99, 100, 101, 102, 103, 104, 105, 106, 107, 108, 109, 110, 111, 112, 113, 114, 115, 116, 117, 118, 119, 120, 121, 122]) t))  : FnOk P w K mg base CX0 1 f fd ["steps", "ahead", "count"] (spD K 3 m_texts_of_length) :=
  fnd (k := 0) (n := 8) F sc_texts_of_length rfl fun cdv A outer s H E hr =>
    (pss_dcons (ps_dset (i := 3) sc_texts_of_length.nd rfl (.inl rfl) (Dw.pd_if (pt_d (pd_get (pd_get (pd_var (pv 1)) (pd_neg pd_int)) pd_int)) (pd_lst (pa_dcons (pd_tup (pa_dcons (pd_str [] (by rfl)) (pa_dcons pd_int pa_dnil))) pa_dnil)) (pd_lst pa_dnil)))
    (pss_dcons (ps_dfor PassesOwn.never rfl (pi_drev z_reversed (pd_slice (pd_var (pv 1)) po_dnone (po_dsome (pd_neg pd_int)))) (pg_dnm sc_texts_of_length.nd rfl (.inl rfl)) (pss_dcons (ps_dset (i := 5) sc_texts_of_length.nd rfl (.inl rfl) (pd_lst pa_dnil))
    (pss_dcons (ps_dfor PassesOwn.never rfl (pi_dsrc (pd_var (pv 3))) (pg_dtwo sc_texts_of_length.nd rfl rfl (.inl rfl) rfl (.inl rfl)) (pss_done (ps_dfor PassesOwn.never rfl (pi_dzipS z_zip (pa_dcons (pd_cstr cs_LETTERS) (pa_dcons (pd_get (pd_var (pv 0)) (pd_var (pv 7))) pa_dnil))) (pg_dtwo sc_texts_of_length.nd rfl rfl (.inl rfl) rfl (.inl rfl)) (pss_done (ps_dif (pt_d (pd_get (pd_var (pv 4)) (pd_var (pv 9)))) (pss_done (ps_dexpr (pd_append (pd_var (pv 5)) (pa_dcons (pd_tup (pa_dcons (pd_add (pd_var (pv 6)) (pd_var (pv 8))) (pa_dcons (pd_var (pv 9)) pa_dnil))) pa_dnil)))) pss_dnil)))))
    (pss_done (ps_dset (i := 3) sc_texts_of_length.nd rfl (.inl rfl) (pd_slice (pd_var (pv 5)) po_dnone (po_dsome (pd_var (pv 2)))))))))
    (pss_done (ps_dret (pd_comp (own := [("text", 6), ("_", 10)]) (by rfl) sc_texts_of_length.nd (blk_of (N := ["steps", "ahead", "count", "rows", "reaching", "longer", "text", "state", "letter", "index", "_"]) (sc := defScope s_texts_of_length) (by decide +kernel)) (by rfl) (pi_dsrc (pd_var (pv 3))) (fun s H C cl fp => (pg_dtwo sc_texts_of_length.nd rfl rfl (.inl rfl) rfl (.inl rfl))) (fun s H C cl fp => pts_dnil) (fun s H C cl fp => (pd_var (pv 6))))))))
abbrev s_texts_of_class : Stmt := topS 23
theorem sc_texts_of_class : FnScope ["classes", "steps", "wanted", "count", "found", "ahead", "last", "one", "row", "index"] ["classes", "steps", "wanted", "count"] (defScope s_texts_of_class) := ⟨rfl, rfl, rfl, by decide +kernel, rfl, by decide +kernel, by decide +kernel⟩
def e_texts_of_class_1 : SE :=
    (two (op2 eqD) (varE 7) (varE 2))
def e_texts_of_class_2 : SE :=
    (two (op2 getD) (varE 6) (varE 9))
def e_texts_of_class_3 : SE :=
    (callE anyC (consA (compE [9] (srcE (varE 8)) (.nm 9) none e_texts_of_class_2) nilA))
def l_texts_of_class_4 : SS :=
    (seqS (exprS (extE (varE 4) (callM 1 m_texts_of_length [] (consA (varE 1) (consA (varE 5) (consA (two (op2 subD) (varE 3) (callE lenD (consA (varE 4) nilA))) nilA))))))
    (seqS (asgS 6 (two (op2 getD) (varE 5) (oneE negD (constE (.int 1)))))
    (exprS (mutE appU (varE 5) (consA (compE [8] (srcE (varE 1)) (.nm 8) none e_texts_of_class_3) nilA)))))
def b_texts_of_class : SS :=
    (seqS (asgS 4 (lstE nilA))
    (seqS (asgS 5 (lstE (consA (compE [7] (srcE (varE 0)) (.nm 7) none e_texts_of_class_1) nilA)))
    (seqS (whileS (andE (two (op2 ltG) (callE lenD (consA (varE 4) nilA)) (varE 3)) (callE anyC (consA (two (op2 getD) (varE 5) (oneE negD (constE (.int 1)))) nilA))) l_texts_of_class_4)
    (retS (varE 4)))))
def m_texts_of_class : List SV → Option FR := defM 4 6 b_texts_of_class
theorem ok_texts_of_class {P : Program} {w : World} {K : PySem.W.Frag} {mg : Str → Option Value} {base : Heap} {f : Addr} {fd : FuncData} (F : Fun K "texts_of_class" "texts_of_class" s_texts_of_class f fd) (z_any : mg "any" = none) (z_len : mg "len" = none) (c_texts_of_length : Def P w K mg base 1 "texts_of_length" 3 m_texts_of_length []) : FnOk P w K mg base CX0 2 f fd ["classes", "steps", "wanted", "count"] (spD K 4 m_texts_of_class) :=
  fnd (k := 1) (n := 6) F sc_texts_of_class rfl fun cdv A outer s H E hr =>
    (pss_dcons (ps_dset (i := 4) sc_texts_of_class.nd rfl (.inl rfl) (pd_lst pa_dnil))
    (pss_dcons (ps_dset (i := 5) sc_texts_of_class.nd rfl (.inl rfl) (pd_lst (pa_dcons (pd_comp (own := [("one", 7)]) (by rfl) sc_texts_of_class.nd (blk_of (N := ["classes", "steps", "wanted", "count", "found", "ahead", "last", "one", "row", "index"]) (sc := defScope s_texts_of_class) (by decide +kernel)) (by rfl) (pi_dsrc (pd_var (pv 0))) (fun s H C cl fp => (pg_dnm sc_texts_of_class.nd rfl (.inl rfl))) (fun s H C cl fp => pts_dnil) (fun s H C cl fp => (pd_eq hr.units (pd_var (pv 7)) (pd_var (pv 2))))) pa_dnil)))
    (pss_dcons (ps_dwhile PassesOwn.never ((pw_dand (pt_ltg hr.units (pd_callB cr_len snd_len z_len rfl (pa_dcons (pd_var (pv 4)) pa_dnil)) (pd_var (pv 3))) (pw_dand1 (pt_d (pd_callB (cr_any (by rfl)) snd_any z_any rfl (pa_dcons (pd_get (pd_var (pv 5)) (pd_neg pd_int)) pa_dnil)))))).pt (pss_dcons (ps_dexpr (pd_ext (pd_var (pv 4)) (pd_callMN 1 c_texts_of_length hr (by decide) (pa_dcons (pd_var (pv 1)) (pa_dcons (pd_var (pv 5)) (pa_dcons (pd_sub (pd_var (pv 3)) (pd_callB cr_len snd_len z_len rfl (pa_dcons (pd_var (pv 4)) pa_dnil))) pa_dnil))))))
    (pss_dcons (ps_dset (i := 6) sc_texts_of_class.nd rfl (.inr rfl) (pd_get (pd_var (pv 5)) (pd_neg pd_int)))
    (pss_done (ps_dexpr (pd_append (pd_var (pv 5)) (pa_dcons (pd_comp (own := [("row", 8)]) (by rfl) sc_texts_of_class.nd (blk_of (N := ["classes", "steps", "wanted", "count", "found", "ahead", "last", "one", "row", "index"]) (sc := defScope s_texts_of_class) (by decide +kernel)) (by rfl) (pi_dsrc (pd_var (pv 1))) (fun s H C cl fp => (pg_dnm sc_texts_of_class.nd rfl (.inl rfl))) (fun s H C cl fp => pts_dnil) (fun s H C cl fp => (pd_callB (cr_any (by rfl)) snd_any z_any rfl (pa_dcons (pd_comp (own := [("index", 9)]) (by rfl) sc_texts_of_class.nd (blk_of (N := ["classes", "steps", "wanted", "count", "found", "ahead", "last", "one", "row", "index"]) (sc := { kind := .function, names := [(".0", .local), ("row", .local), ("any", .globalImplicit), ("last", .cell)], isGenerator := false, isCoroutine := false }) (by decide +kernel)) (by rfl) (pi_dsrc (pd_var (pv 8))) (fun s H C cl fp => (pg_dnm sc_texts_of_class.nd rfl (.inl rfl))) (fun s H C cl fp => pts_dnil) (fun s H C cl fp => (pd_get (pd_var (pv 6)) (pd_var (pv 9))))) pa_dnil)))) pa_dnil)))))))
    (pss_done (ps_dret (pd_var (pv 4)))))))
abbrev s_first_texts : Stmt := topS 18
theorem sc_first_texts : FnScope ["patterns", "wanted", "count", "but", "texts", "states", "steps", "text"] ["patterns", "wanted", "count", "but"] (defScope s_first_texts) := ⟨rfl, rfl, rfl, by decide +kernel, rfl, by decide +kernel, by decide +kernel⟩
def e_first_texts_1 : SE :=
    (varE 7)
def b_first_texts : SS :=
    (seqS (asgT (.two 5 6) (callD m_state_graph [] (consA (varE 0) nilA)))
    (seqS (asgS 4 (callD m_texts_of_class [] (consA (callD m_classes_of_states [] (consA (varE 0) (consA (varE 5) nilA))) (consA (varE 6) (consA (varE 1) (consA (two (op2 addD) (varE 2) (callE lenD (consA (varE 3) nilA))) nilA))))))
    (retS (sliceE (compE [7] (srcE (varE 4)) (.nm 7) (some (two (op2 notInG) (varE 7) (varE 3))) e_first_texts_1) none (some (varE 2))))))
def m_first_texts : List SV → Option FR := defM 4 4 b_first_texts
theorem ok_first_texts {P : Program} {w : World} {K : PySem.W.Frag} {mg : Str → Option Value} {base : Heap} {f : Addr} {fd : FuncData} {dvs : List V} (F : FunD K "first_texts" "first_texts" (defArgs s_first_texts) (defBody s_first_texts) (defScope s_first_texts) dvs [] f fd) (z_len : mg "len" = none) (c_state_graph : Def P w K mg base 4 "state_graph" 1 m_state_graph []) (c_classes_of_states : Def P w K mg base 2 "classes_of_states" 2 m_classes_of_states []) (c_texts_of_class : Def P w K mg base 2 "texts_of_class" 4 m_texts_of_class []) : FnOk P w K mg base CX0 5 f fd ["patterns", "wanted", "count", "but"] (spD K 4 m_first_texts) :=
  fndD (k := 4) (n := 4) F sc_first_texts rfl fun cdv A outer s H E hr =>
    (pss_dcons (ps_dasgT (pd_callN c_state_graph hr (by decide) (pa_dcons (pd_var (pv 0)) pa_dnil)) (pg_dtwo sc_first_texts.nd rfl rfl (.inl rfl) rfl (.inl rfl)))
    (pss_dcons (ps_dset (i := 4) sc_first_texts.nd rfl (.inl rfl) (pd_callN c_texts_of_class hr (by decide) (pa_dcons (pd_callN c_classes_of_states hr (by decide) (pa_dcons (pd_var (pv 0)) (pa_dcons (pd_var (pv 5)) pa_dnil))) (pa_dcons (pd_var (pv 6)) (pa_dcons (pd_var (pv 1)) (pa_dcons (pd_add (pd_var (pv 2)) (pd_callB cr_len snd_len z_len rfl (pa_dcons (pd_var (pv 3)) pa_dnil))) pa_dnil))))))
    (pss_done (ps_dret (pd_slice (pd_comp (own := [("text", 7)]) (by rfl) sc_first_texts.nd (blk_of (N := ["patterns", "wanted", "count", "but", "texts", "states", "steps", "text"]) (sc := defScope s_first_texts) (by decide +kernel)) (by rfl) (pi_dsrc (pd_var (pv 4))) (fun s H C cl fp => (pg_dnm sc_first_texts.nd rfl (.inl rfl))) (fun s H C cl fp => (pts_done (pt_notInGd (r65 hr) (pd_var (pv 7)) (pd_var (pv 3))))) (fun s H C cl fp => (pd_var (pv 7)))) po_dnone (po_dsome (pd_var (pv 2))))))))
abbrev s_first_text : Stmt := topS 19
theorem sc_first_text : FnScope ["patterns", "wanted", "but", "texts"] ["patterns", "wanted", "but"] (defScope s_first_text) := ⟨rfl, rfl, rfl, by decide +kernel, rfl, by decide +kernel, by decide +kernel⟩
def b_first_text : SS :=
    (seqS (asgS 3 (callD m_first_texts [] (consA (varE 0) (consA (varE 1) (consA (constE (.int 1)) (consA (varE 2) nilA))))))
    (retS (ifE (varE 3) (two (op2 getD) (varE 3) (constE (.int 0))) (constE .non))))
def m_first_text : List SV → Option FR := defM 3 1 b_first_text
theorem ok_first_text {P : Program} {w : World} {K : PySem.W.Frag} {mg : Str → Option Value} {base : Heap} {f : Addr} {fd : FuncData} {dvs : List V} (F : FunD K "first_text" "first_text" (defArgs s_first_text) (defBody s_first_text) (defScope s_first_text) dvs [] f fd)  (c_first_texts : Def P w K mg base 5 "first_texts" 4 m_first_texts []) : FnOk P w K mg base CX0 6 f fd ["patterns", "wanted", "but"] (spD K 3 m_first_text) :=
  fndD (k := 5) (n := 1) F sc_first_text rfl fun cdv A outer s H E hr =>
    (pss_dcons (ps_dset (i := 3) sc_first_text.nd rfl (.inl rfl) (pd_callN c_first_texts hr (by decide) (pa_dcons (pd_var (pv 0)) (pa_dcons (pd_var (pv 1)) (pa_dcons pd_int (pa_dcons (pd_var (pv 2)) pa_dnil))))))
    (pss_done (ps_dret (Dw.pd_if (pt_d (pd_var (pv 3))) (pd_get (pd_var (pv 3)) pd_int) pd_non))))
abbrev s_first_table : Stmt := topS 21
theorem sc_first_table : FnScope ["patterns", "count", "classes", "states", "steps", "wanted"] ["patterns", "count"] (defScope s_first_table) := ⟨rfl, rfl, rfl, by decide +kernel, rfl, by decide +kernel, by decide +kernel⟩
def k_first_table_1 : SE :=
    (varE 5)
def e_first_table_2 : SE :=
    (callD m_texts_of_class [] (consA (varE 2) (consA (varE 4) (consA (varE 5) (consA (varE 1) nilA)))))
def b_first_table : SS :=
    (seqS (asgT (.two 3 4) (callD m_state_graph [] (consA (varE 0) nilA)))
    (seqS (asgS 2 (callD m_classes_of_states [] (consA (varE 0) (consA (varE 3) nilA))))
    (retS (cmpN (emU k_first_table_1 e_first_table_2) (.dcu [] []) ⟨(srcE (callD m_without_repeats [] (consA (varE 2) nilA))), (.nm 5), none, [5]⟩ []))))
def m_first_table : List SV → Option FR := defM 2 4 b_first_table
theorem ok_first_table {P : Program} {w : World} {K : PySem.W.Frag} {mg : Str → Option Value} {base : Heap} {f : Addr} {fd : FuncData} (F : Fun K "first_table" "first_table" s_first_table f fd) (hW : w = Glo.w) (c_state_graph : Def P w K mg base 4 "state_graph" 1 m_state_graph []) (c_classes_of_states : Def P w K mg base 2 "classes_of_states" 2 m_classes_of_states []) (c_without_repeats : Def P w K mg base 1 "without_repeats" 1 m_without_repeats []) (c_texts_of_class : Def P w K mg base 2 "texts_of_class" 4 m_texts_of_class []) : FnOk P w K mg base CX0 5 f fd ["patterns", "count"] (spD K 2 m_first_table) :=
  fnd (k := 4) (n := 4) F sc_first_table rfl fun cdv A outer s H E hr =>
    (pss_dcons (ps_dasgT (pd_callN c_state_graph hr (by decide) (pa_dcons (pd_var (pv 0)) pa_dnil)) (pg_dtwo sc_first_table.nd rfl rfl (.inl rfl) rfl (.inr rfl)))
    (pss_dcons (ps_dset (i := 2) sc_first_table.nd rfl (.inr rfl) (pd_callN c_classes_of_states hr (by decide) (pa_dcons (pd_var (pv 0)) (pa_dcons (pd_var (pv 3)) pa_dnil))))
    (pss_done (ps_dret (pd_dcU1 (own := [("wanted", 5)]) hW (by rfl) rfl sc_first_table.nd (u8_of (r65 hr)) (blk_of (N := ["patterns", "count", "classes", "states", "steps", "wanted"]) (sc := defScope s_first_table) (by decide +kernel)) (by rfl) (pi_dsrc (pd_callN c_without_repeats hr (by decide) (pa_dcons (pd_var (pv 2)) pa_dnil))) (fun s H C cl fp => ⟨(pg_dnm sc_first_table.nd rfl (.inl rfl)), pts_dnil⟩)  (fun s H C cl fp => (pd_var (pv 5))) (fun s H C cl fp => (pd_callN c_texts_of_class hr (by decide) (pa_dcons (pd_var (pv 2)) (pa_dcons (pd_var (pv 4)) (pa_dcons (pd_var (pv 5)) (pa_dcons (pd_var (pv 1)) pa_dnil)))))))))))
abbrev s_first_rows : Stmt := topS 20
theorem sc_first_rows : FnScope ["patterns", "count"] ["patterns", "count"] (defScope s_first_rows) := ⟨rfl, rfl, rfl, by decide +kernel, rfl, by decide +kernel, by decide +kernel⟩
def b_first_rows : SS :=
    (retS (valsE (callD m_first_table [] (consA (varE 0) (consA (varE 1) nilA)))))
def m_first_rows : List SV → Option FR := defM 2 0 b_first_rows
theorem ok_first_rows {P : Program} {w : World} {K : PySem.W.Frag} {mg : Str → Option Value} {base : Heap} {f : Addr} {fd : FuncData} (F : Fun K "first_rows" "first_rows" s_first_rows f fd) (z_list : mg "list" = none) (hW : w = Glo.w) (c_first_table : Def P w K mg base 5 "first_table" 2 m_first_table []) : FnOk P w K mg base CX0 6 f fd ["patterns", "count"] (spD K 2 m_first_rows) :=
  fnd (k := 5) (n := 0) F sc_first_rows rfl fun cdv A outer s H E hr =>
    (pss_done (ps_dret (pd_listVU hW rfl z_list (pd_callN c_first_table hr (by decide) (pa_dcons (pd_var (pv 0)) (pa_dcons (pd_var (pv 1)) pa_dnil))))))
abbrev s_ulawucell : Stmt := topS 26
theorem sc_ulawucell : FnScope ["script", "k"] ["script", "k"] (defScope s_ulawucell) := ⟨rfl, rfl, rfl, by decide +kernel, rfl, by decide +kernel, by decide +kernel⟩
def b_ulawucell : SS :=
    (seqS (iteS (two (op2 ltG) (varE 1) (callE lenD (consA (varE 0) nilA))) (retS (two (op2 getD) (varE 0) (varE 1))) skipS)
    (retS (constE (.int 0))))
def m_ulawucell : List SV → Option FR := defM 2 0 b_ulawucell
theorem ok_ulawucell {P : Program} {w : World} {K : PySem.W.Frag} {mg : Str → Option Value} {base : Heap} {f : Addr} {fd : FuncData} (F : Fun K "_law_cell" "_law_cell" s_ulawucell f fd) (z_len : mg "len" = none)  : FnOk P w K mg base CX0 1 f fd ["script", "k"] (spD K 2 m_ulawucell) :=
  fnd (k := 0) (n := 0) F sc_ulawucell rfl fun cdv A outer s H E hr =>
    (pss_dcons (ps_dif (pt_ltg hr.units (pd_var (pv 1)) (pd_callB cr_len snd_len z_len rfl (pa_dcons (pd_var (pv 0)) pa_dnil))) (pss_done (ps_dret (pd_get (pd_var (pv 0)) (pd_var (pv 1))))) pss_dnil)
    (pss_done (ps_dret pd_int)))
abbrev s_ulawurow : Stmt := topS 27
theorem sc_ulawurow : FnScope ["cell", "count", "base", "row", "k", "number"] ["cell", "count", "base"] (defScope s_ulawurow) := ⟨rfl, rfl, rfl, by decide +kernel, rfl, by decide +kernel, by decide +kernel⟩
def l_ulawurow_1 : SS :=
    (iteS (two (op2 geD) (varE 0) (two (op2 powD) (constE (.int 10)) (constE (.int 18)))) (seqS (exprS (mutE appU (varE 3) (consA (two (op2 modD) (callE intC (consA (varE 0) nilA)) (varE 2)) nilA)))
    (asgS 0 (two (op2 fdivD) (varE 0) (varE 2)))) (seqS (asgS 5 (two (op2 modD) (callE intC (consA (two (op2 addD) (two (op2 addD) (two (op2 mulD) (varE 0) (constE (.int 48271))) (two (op2 mulD) (varE 4) (constE (.int 69621)))) (constE (.int 12345))) nilA)) (constE (.int 2147483647))))
    (seqS (asgS 5 (two (op2 modD) (callE intC (consA (two (op2 addD) (two (op2 addD) (two (op2 mulD) (varE 5) (varE 5)) (two (op2 mulD) (constE (.int 16807)) (varE 4))) (constE (.int 7))) nilA)) (constE (.int 998244353))))
    (seqS (asgS 5 (two (op2 modD) (callE intC (consA (two (op2 addD) (two (op2 addD) (two (op2 mulD) (varE 5) (varE 5)) (two (op2 mulD) (constE (.int 48271)) (varE 4))) (varE 0)) nilA)) (constE (.int 2147483629))))
    (exprS (mutE appU (varE 3) (consA (two (op2 modD) (callE intC (consA (two (op2 fdivD) (varE 5) (constE (.int 13))) nilA)) (varE 2)) nilA)))))))
def b_ulawurow : SS :=
    (seqS (asgS 3 (lstE nilA))
    (seqS (forS (argsI rng1 (consA (varE 1) nilA)) (.nm 4) l_ulawurow_1)
    (retS (varE 3))))
def m_ulawurow : List SV → Option FR := defM 3 3 b_ulawurow
theorem ok_ulawurow {P : Program} {w : World} {K : PySem.W.Frag} {mg : Str → Option Value} {base : Heap} {f : Addr} {fd : FuncData} (F : Fun K "_law_row" "_law_row" s_ulawurow f fd) (z_int : mg "int" = none) (z_range : mg "range" = none)  : FnOk P w K mg base CX0 1 f fd ["cell", "count", "base"] (spD K 3 m_ulawurow) :=
  fnd (k := 0) (n := 3) F sc_ulawurow rfl fun cdv A outer s H E hr =>
    (pss_dcons (ps_dset (i := 3) sc_ulawurow.nd rfl (.inl rfl) (pd_lst pa_dnil))
    (pss_dcons (ps_dfor PassesOwn.never rfl (pi_drange1 z_range (pa_dcons (pd_var (pv 1)) pa_dnil)) (pg_dnm sc_ulawurow.nd rfl (.inl rfl)) (pss_done (ps_dif (pt_ged (pd_var (pv 0)) (pd_pow pd_int pd_int)) (pss_dcons (ps_dexpr (pd_append (pd_var (pv 3)) (pa_dcons (pd_mod (pd_callTy cr_int snd_intC z_int rfl (pa_dcons (pd_var (pv 0)) pa_dnil)) (pd_var (pv 2))) pa_dnil)))
    (pss_done (ps_dset (i := 0) sc_ulawurow.nd rfl (.inl rfl) (pd_fdiv (pd_var (pv 0)) (pd_var (pv 2)))))) (pss_dcons (ps_dset (i := 5) sc_ulawurow.nd rfl (.inl rfl) (pd_mod (pd_callTy cr_int snd_intC z_int rfl (pa_dcons (pd_add (pd_add (pd_mul (pd_var (pv 0)) pd_int) (pd_mul (pd_var (pv 4)) pd_int)) pd_int) pa_dnil)) pd_int))
    (pss_dcons (ps_dset (i := 5) sc_ulawurow.nd rfl (.inl rfl) (pd_mod (pd_callTy cr_int snd_intC z_int rfl (pa_dcons (pd_add (pd_add (pd_mul (pd_var (pv 5)) (pd_var (pv 5))) (pd_mul pd_int (pd_var (pv 4)))) pd_int) pa_dnil)) pd_int))
    (pss_dcons (ps_dset (i := 5) sc_ulawurow.nd rfl (.inl rfl) (pd_mod (pd_callTy cr_int snd_intC z_int rfl (pa_dcons (pd_add (pd_add (pd_mul (pd_var (pv 5)) (pd_var (pv 5))) (pd_mul pd_int (pd_var (pv 4)))) (pd_var (pv 0))) pa_dnil)) pd_int))
    (pss_done (ps_dexpr (pd_append (pd_var (pv 3)) (pa_dcons (pd_mod (pd_callTy cr_int snd_intC z_int rfl (pa_dcons (pd_fdiv (pd_var (pv 5)) pd_int) pa_dnil)) (pd_var (pv 2))) pa_dnil))))))))))
    (pss_done (ps_dret (pd_var (pv 3))))))
abbrev s_ulawutext : Stmt := topS 28
theorem sc_ulawutext : FnScope ["cell", "size", "k"] ["cell", "size"] (defScope s_ulawutext) := ⟨rfl, rfl, rfl, by decide +kernel, rfl, by decide +kernel, by decide +kernel⟩
def e_ulawutext_1 : SE :=
    (two (op2 getD) (constE (.str [97, 98, 99, 100, 101, 102, 103, 104, 105, 106, 107, 108, 109, 110, 111, 112, 113, 114, 115, 116, 117, 118, 119, 120, 121, 122])) (varE 2))
def b_ulawutext : SS :=
    (retS (metE "str" joinD (constE (.str [])) (consA (compE [2] (srcE (callD m_ulawurow [] (consA (varE 0) (consA (varE 1) (consA (constE (.int 26)) nilA))))) (.nm 2) none e_ulawutext_1) nilA)))
def m_ulawutext : List SV → Option FR := defM 2 1 b_ulawutext
theorem ok_ulawutext {P : Program} {w : World} {K : PySem.W.Frag} {mg : Str → Option Value} {base : Heap} {f : Addr} {fd : FuncData} (F : Fun K "_law_text" "_law_text" s_ulawutext f fd)  (c_ulawurow : Def P w K mg base 1 "_law_row" 3 m_ulawurow []) : FnOk P w K mg base CX0 2 f fd ["cell", "size"] (spD K 2 m_ulawutext) :=
  fnd (k := 1) (n := 1) F sc_ulawutext rfl fun cdv A outer s H E hr =>
    (pss_done (ps_dret (pd_join (pd_str [] (by rfl)) (pa_dcons (pd_comp (own := [("k", 2)]) (by rfl) sc_ulawutext.nd (blk_of (N := ["cell", "size", "k"]) (sc := defScope s_ulawutext) (by decide +kernel)) (by rfl) (pi_dsrc (pd_callN c_ulawurow hr (by decide) (pa_dcons (pd_var (pv 0)) (pa_dcons (pd_var (pv 1)) (pa_dcons pd_int pa_dnil))))) (fun s H C cl fp => (pg_dnm sc_ulawutext.nd rfl (.inl rfl))) (fun s H C cl fp => pts_dnil) (fun s H C cl fp => (pd_get (pd_str [97, 98, 99, 100, 101, 102, 103, 104, 105, 106, 107, 108, 109, 110, 111, 112, 113, 114, 115, 116, 117, 118, 119, 120, 121, 122] (by rfl)) (pd_var (pv 2))))) pa_dnil))))
abbrev s_ulawumatches : Stmt := topS 29
theorem sc_ulawumatches : FnScope ["signs", "text", "places", "k", "reached", "place"] ["signs", "text"] (defScope s_ulawumatches) := ⟨rfl, rfl, rfl, by decide +kernel, rfl, by decide +kernel, by decide +kernel⟩
def l_ulawumatches_1 : SS :=
    (iteS (two (op2 eqD) (two (op2 getD) (varE 0) (varE 3)) (constE (.str [42]))) (iteS (orE (two (op2 inG) (varE 5) (varE 2)) (two (op2 inG) (two (op2 subD) (varE 5) (constE (.int 1))) (varE 4))) (exprS (mutE appU (varE 4) (consA (varE 5) nilA))) skipS) (iteS (andE (two (op2 gtD) (varE 5) (constE (.int 0))) (andE (two (op2 inG) (two (op2 subD) (varE 5) (constE (.int 1))) (varE 2)) (orE (two (op2 eqD) (two (op2 getD) (varE 0) (varE 3)) (constE (.str [63]))) (two (op2 eqD) (two (op2 getD) (varE 0) (varE 3)) (two (op2 getD) (varE 1) (two (op2 subD) (varE 5) (constE (.int 1)))))))) (exprS (mutE appU (varE 4) (consA (varE 5) nilA))) skipS))
def l_ulawumatches_2 : SS :=
    (seqS (asgS 4 (lstE nilA))
    (seqS (forS (argsI rng1 (consA (two (op2 addD) (callE lenD (consA (varE 1) nilA)) (constE (.int 1))) nilA)) (.nm 5) l_ulawumatches_1)
    (asgS 2 (varE 4))))
def b_ulawumatches : SS :=
    (seqS (asgS 2 (lstE (consA (constE (.int 0)) nilA)))
    (seqS (forS (argsI rng1 (consA (callE lenD (consA (varE 0) nilA)) nilA)) (.nm 3) l_ulawumatches_2)
    (retS (two (op2 inG) (callE lenD (consA (varE 1) nilA)) (varE 2)))))
def m_ulawumatches : List SV → Option FR := defM 2 4 b_ulawumatches
theorem ok_ulawumatches {P : Program} {w : World} {K : PySem.W.Frag} {mg : Str → Option Value} {base : Heap} {f : Addr} {fd : FuncData} (F : Fun K "_law_matches" "_law_matches" s_ulawumatches f fd) (z_len : mg "len" = none) (z_range : mg "range" = none)  : FnOk P w K mg base CX0 1 f fd ["signs", "text"] (spD K 2 m_ulawumatches) :=
  fnd (k := 0) (n := 4) F sc_ulawumatches rfl fun cdv A outer s H E hr =>
    (pss_dcons (ps_dset (i := 2) sc_ulawumatches.nd rfl (.inl rfl) (pd_lst (pa_dcons pd_int pa_dnil)))
    (pss_dcons (ps_dfor PassesOwn.never rfl (pi_drange1 z_range (pa_dcons (pd_callB cr_len snd_len z_len rfl (pa_dcons (pd_var (pv 0)) pa_dnil)) pa_dnil)) (pg_dnm sc_ulawumatches.nd rfl (.inl rfl)) (pss_dcons (ps_dset (i := 4) sc_ulawumatches.nd rfl (.inl rfl) (pd_lst pa_dnil))
    (pss_dcons (ps_dfor PassesOwn.never rfl (pi_drange1 z_range (pa_dcons (pd_add (pd_callB cr_len snd_len z_len rfl (pa_dcons (pd_var (pv 1)) pa_dnil)) pd_int) pa_dnil)) (pg_dnm sc_ulawumatches.nd rfl (.inl rfl)) (pss_done (ps_dif (pt_eqd hr.units (pd_get (pd_var (pv 0)) (pd_var (pv 3))) (pd_str [42] (by rfl))) (pss_done (ps_dif ((pw_dor (pt_inGd (r65 hr) (pd_var (pv 5)) (pd_var (pv 2))) (pw_dor1 (pt_inGd (r65 hr) (pd_sub (pd_var (pv 5)) pd_int) (pd_var (pv 4)))))).pt (pss_done (ps_dexpr (pd_append (pd_var (pv 4)) (pa_dcons (pd_var (pv 5)) pa_dnil)))) pss_dnil)) (pss_done (ps_dif ((pw_dand (pt_gtd (pd_var (pv 5)) pd_int) (pw_dand (pt_inGd (r65 hr) (pd_sub (pd_var (pv 5)) pd_int) (pd_var (pv 2))) (pw_dand1 ((pw_dor (pt_eqd hr.units (pd_get (pd_var (pv 0)) (pd_var (pv 3))) (pd_str [63] (by rfl))) (pw_dor1 (pt_eqd hr.units (pd_get (pd_var (pv 0)) (pd_var (pv 3))) (pd_get (pd_var (pv 1)) (pd_sub (pd_var (pv 5)) pd_int)))))).pt)))).pt (pss_done (ps_dexpr (pd_append (pd_var (pv 4)) (pa_dcons (pd_var (pv 5)) pa_dnil)))) pss_dnil)))))
    (pss_done (ps_dset (i := 2) sc_ulawumatches.nd rfl (.inl rfl) (pd_var (pv 4)))))))
    (pss_done (ps_dret (pd_inG (r65 hr) (pd_callB cr_len snd_len z_len rfl (pa_dcons (pd_var (pv 1)) pa_dnil)) (pd_var (pv 2)))))))
abbrev s_ulawusmall : Stmt := topS 30
theorem sc_ulawusmall : FnScope ["cell", "row", "signs", "k", "sign"] ["cell"] (defScope s_ulawusmall) := ⟨rfl, rfl, rfl, by decide +kernel, rfl, by decide +kernel, by decide +kernel⟩
def l_ulawusmall_1 : SS :=
    (seqS (asgS 4 (two (op2 getD) (constE (.str [97, 97, 98, 98, 99, 120, 121, 122, 97, 97, 98, 63, 63, 63, 42, 42, 42, 97, 98, 99, 97, 98, 42, 63])) (two (op2 getD) (varE 1) (varE 3))))
    (seqS (iteS (andE (two (op2 eqD) (varE 4) (constE (.str [42]))) (two (op2 eqD) (metE "str" (textM countL) (varE 2) (consA (constE (.str [42])) nilA)) (constE (.int 1)))) (asgS 4 (constE (.str [63]))) skipS)
    (asgS 2 (two (op2 addD) (varE 2) (varE 4)))))
def b_ulawusmall : SS :=
    (seqS (asgS 1 (callD m_ulawurow [] (consA (varE 0) (consA (constE (.int 6)) (consA (constE (.int 24)) nilA)))))
    (seqS (asgS 2 (constE (.str [])))
    (seqS (forS (argsI rng1 (consA (two (op2 modD) (two (op2 getD) (varE 1) (constE (.int 5))) (constE (.int 5))) nilA)) (.nm 3) l_ulawusmall_1)
    (retS (varE 2)))))
def m_ulawusmall : List SV → Option FR := defM 1 4 b_ulawusmall
theorem ok_ulawusmall {P : Program} {w : World} {K : PySem.W.Frag} {mg : Str → Option Value} {base : Heap} {f : Addr} {fd : FuncData} (F : Fun K "_law_small" "_law_small" s_ulawusmall f fd) (z_range : mg "range" = none) (c_ulawurow : Def P w K mg base 1 "_law_row" 3 m_ulawurow []) : FnOk P w K mg base CX0 2 f fd ["cell"] (spD K 1 m_ulawusmall) :=
  fnd (k := 1) (n := 4) F sc_ulawusmall rfl fun cdv A outer s H E hr =>
    (pss_dcons (ps_dset (i := 1) sc_ulawusmall.nd rfl (.inl rfl) (pd_callN c_ulawurow hr (by decide) (pa_dcons (pd_var (pv 0)) (pa_dcons pd_int (pa_dcons pd_int pa_dnil)))))
    (pss_dcons (ps_dset (i := 2) sc_ulawusmall.nd rfl (.inl rfl) (pd_str [] (by rfl)))
    (pss_dcons (ps_dfor PassesOwn.never rfl (pi_drange1 z_range (pa_dcons (pd_mod (pd_get (pd_var (pv 1)) pd_int) pd_int) pa_dnil)) (pg_dnm sc_ulawusmall.nd rfl (.inl rfl)) (pss_dcons (ps_dset (i := 4) sc_ulawusmall.nd rfl (.inl rfl) (pd_get (pd_str [97, 97, 98, 98, 99, 120, 121, 122, 97, 97, 98, 63, 63, 63, 42, 42, 42, 97, 98, 99, 97, 98, 42, 63] (by rfl)) (pd_get (pd_var (pv 1)) (pd_var (pv 3)))))
    (pss_dcons (ps_dif ((pw_dand (pt_eqd hr.units (pd_var (pv 4)) (pd_str [42] (by rfl))) (pw_dand1 (pt_eqd hr.units (pd_met (.inl rfl) PySem.F.plainAttrs_str PySem.F.slot_str_count PySem.F.type_str_count mt_count snd_count (pd_var (pv 2)) (pa_dcons (pd_str [42] (by rfl)) pa_dnil)) pd_int)))).pt (pss_done (ps_dset (i := 4) sc_ulawusmall.nd rfl (.inl rfl) (pd_str [63] (by rfl)))) pss_dnil)
    (pss_done (ps_dset (i := 2) sc_ulawusmall.nd rfl (.inl rfl) (pd_add (pd_var (pv 2)) (pd_var (pv 4))))))))
    (pss_done (ps_dret (pd_var (pv 2)))))))
abbrev s_ulawupatterns : Stmt := topS 31
theorem sc_ulawupatterns : FnScope ["script", "start", "most", "found", "k", "signs"] ["script", "start", "most"] (defScope s_ulawupatterns) := ⟨rfl, rfl, rfl, by decide +kernel, rfl, by decide +kernel, by decide +kernel⟩
def l_ulawupatterns_1 : SS :=
    (seqS (asgS 5 (callD m_ulawusmall [] (consA (callD m_ulawucell [] (consA (varE 0) (consA (two (op2 addD) (two (op2 addD) (varE 1) (constE (.int 1))) (varE 4)) nilA))) nilA)))
    (iteS (two (op2 notInG) (varE 5) (varE 3)) (exprS (mutE appU (varE 3) (consA (varE 5) nilA))) skipS))
def b_ulawupatterns : SS :=
    (seqS (asgS 3 (lstE nilA))
    (seqS (forS (argsI rng1 (consA (two (op2 modD) (callE intC (consA (callD m_ulawucell [] (consA (varE 0) (consA (varE 1) nilA))) nilA)) (two (op2 addD) (varE 2) (constE (.int 1)))) nilA)) (.nm 4) l_ulawupatterns_1)
    (retS (varE 3))))
def m_ulawupatterns : List SV → Option FR := defM 3 3 b_ulawupatterns
theorem ok_ulawupatterns {P : Program} {w : World} {K : PySem.W.Frag} {mg : Str → Option Value} {base : Heap} {f : Addr} {fd : FuncData} (F : Fun K "_law_patterns" "_law_patterns" s_ulawupatterns f fd) (z_int : mg "int" = none) (z_range : mg "range" = none) (c_ulawucell : Def P w K mg base 1 "_law_cell" 2 m_ulawucell []) (c_ulawusmall : Def P w K mg base 2 "_law_small" 1 m_ulawusmall []) : FnOk P w K mg base CX0 3 f fd ["script", "start", "most"] (spD K 3 m_ulawupatterns) :=
  fnd (k := 2) (n := 3) F sc_ulawupatterns rfl fun cdv A outer s H E hr =>
    (pss_dcons (ps_dset (i := 3) sc_ulawupatterns.nd rfl (.inl rfl) (pd_lst pa_dnil))
    (pss_dcons (ps_dfor PassesOwn.never rfl (pi_drange1 z_range (pa_dcons (pd_mod (pd_callTy cr_int snd_intC z_int rfl (pa_dcons (pd_callN c_ulawucell hr (by decide) (pa_dcons (pd_var (pv 0)) (pa_dcons (pd_var (pv 1)) pa_dnil))) pa_dnil)) (pd_add (pd_var (pv 2)) pd_int)) pa_dnil)) (pg_dnm sc_ulawupatterns.nd rfl (.inl rfl)) (pss_dcons (ps_dset (i := 5) sc_ulawupatterns.nd rfl (.inl rfl) (pd_callN c_ulawusmall hr (by decide) (pa_dcons (pd_callN c_ulawucell hr (by decide) (pa_dcons (pd_var (pv 0)) (pa_dcons (pd_add (pd_add (pd_var (pv 1)) pd_int) (pd_var (pv 4))) pa_dnil))) pa_dnil)))
    (pss_done (ps_dif (pt_notInGd (r65 hr) (pd_var (pv 5)) (pd_var (pv 3))) (pss_done (ps_dexpr (pd_append (pd_var (pv 3)) (pa_dcons (pd_var (pv 5)) pa_dnil)))) pss_dnil))))
    (pss_done (ps_dret (pd_var (pv 3))))))
abbrev s_ulawunear : Stmt := topS 32
theorem sc_ulawunear : FnScope ["script", "k", "signs", "row", "text", "j", "n"] ["script", "k", "signs"] (defScope s_ulawunear) := ⟨rfl, rfl, rfl, by decide +kernel, rfl, by decide +kernel, by decide +kernel⟩
def e_ulawunear_1 : SE :=
    (two (op2 getD) (constE (.str [97, 98, 99, 100, 101, 102, 103, 104, 105, 106, 107, 108, 109, 110, 111, 112, 113, 114, 115, 116, 117, 118, 119, 120, 121, 122])) (varE 6))
def l_ulawunear_2 : SS :=
    (iteS (two (op2 eqD) (two (op2 getD) (varE 2) (varE 5)) (constE (.str [42]))) (asgS 4 (two (op2 addD) (varE 4) (metE "str" joinD (constE (.str [])) (consA (compE [6] (srcE (sliceE (varE 3) none (some (two (op2 fdivD) (two (op2 getD) (varE 3) (constE (.int 8))) (constE (.int 8)))))) (.nm 6) none e_ulawunear_1) nilA)))) (iteS (two (op2 eqD) (two (op2 getD) (varE 2) (varE 5)) (constE (.str [63]))) (asgS 4 (two (op2 addD) (varE 4) (two (op2 getD) (constE (.str [97, 98, 99, 100, 101, 102, 103, 104, 105, 106, 107, 108, 109, 110, 111, 112, 113, 114, 115, 116, 117, 118, 119, 120, 121, 122])) (two (op2 getD) (varE 3) (varE 5))))) (asgS 4 (two (op2 addD) (varE 4) (two (op2 getD) (varE 2) (varE 5))))))
def b_ulawunear : SS :=
    (seqS (asgS 3 (callD m_ulawurow [] (consA (callD m_ulawucell [] (consA (varE 0) (consA (varE 1) nilA))) (consA (constE (.int 12)) (consA (constE (.int 26)) nilA)))))
    (seqS (asgS 4 (constE (.str [])))
    (seqS (forS (argsI rng1 (consA (callE lenD (consA (varE 2) nilA)) nilA)) (.nm 5) l_ulawunear_2)
    (seqS (iteS (two (op2 gtD) (two (op2 getD) (varE 3) (constE (.int 9))) (constE (.int 19))) (asgS 4 (two (op2 addD) (varE 4) (two (op2 getD) (constE (.str [97, 98, 99, 100, 101, 102, 103, 104, 105, 106, 107, 108, 109, 110, 111, 112, 113, 114, 115, 116, 117, 118, 119, 120, 121, 122])) (two (op2 getD) (varE 3) (constE (.int 10)))))) skipS)
    (seqS (iteS (two (op2 ltG) (two (op2 getD) (varE 3) (constE (.int 9))) (constE (.int 4))) (asgS 4 (sliceE (varE 4) (some (constE (.int 1))) none)) skipS)
    (retS (varE 4)))))))
def m_ulawunear : List SV → Option FR := defM 3 4 b_ulawunear
theorem ok_ulawunear {P : Program} {w : World} {K : PySem.W.Frag} {mg : Str → Option Value} {base : Heap} {f : Addr} {fd : FuncData} (F : Fun K "_law_near" "_law_near" s_ulawunear f fd) (z_len : mg "len" = none) (z_range : mg "range" = none) (c_ulawucell : Def P w K mg base 1 "_law_cell" 2 m_ulawucell []) (c_ulawurow : Def P w K mg base 1 "_law_row" 3 m_ulawurow []) : FnOk P w K mg base CX0 2 f fd ["script", "k", "signs"] (spD K 3 m_ulawunear) :=
  fnd (k := 1) (n := 4) F sc_ulawunear rfl fun cdv A outer s H E hr =>
    (pss_dcons (ps_dset (i := 3) sc_ulawunear.nd rfl (.inl rfl) (pd_callN c_ulawurow hr (by decide) (pa_dcons (pd_callN c_ulawucell hr (by decide) (pa_dcons (pd_var (pv 0)) (pa_dcons (pd_var (pv 1)) pa_dnil))) (pa_dcons pd_int (pa_dcons pd_int pa_dnil)))))
    (pss_dcons (ps_dset (i := 4) sc_ulawunear.nd rfl (.inl rfl) (pd_str [] (by rfl)))
    (pss_dcons (ps_dfor PassesOwn.never rfl (pi_drange1 z_range (pa_dcons (pd_callB cr_len snd_len z_len rfl (pa_dcons (pd_var (pv 2)) pa_dnil)) pa_dnil)) (pg_dnm sc_ulawunear.nd rfl (.inl rfl)) (pss_done (ps_dif (pt_eqd hr.units (pd_get (pd_var (pv 2)) (pd_var (pv 5))) (pd_str [42] (by rfl))) (pss_done (ps_dset (i := 4) sc_ulawunear.nd rfl (.inl rfl) (pd_add (pd_var (pv 4)) (pd_join (pd_str [] (by rfl)) (pa_dcons (pd_comp (own := [("n", 6)]) (by rfl) sc_ulawunear.nd (blk_of (N := ["script", "k", "signs", "row", "text", "j", "n"]) (sc := defScope s_ulawunear) (by decide +kernel)) (by rfl) (pi_dsrc (pd_slice (pd_var (pv 3)) po_dnone (po_dsome (pd_fdiv (pd_get (pd_var (pv 3)) pd_int) pd_int)))) (fun s H C cl fp => (pg_dnm sc_ulawunear.nd rfl (.inl rfl))) (fun s H C cl fp => pts_dnil) (fun s H C cl fp => (pd_get (pd_str [97, 98, 99, 100, 101, 102, 103, 104, 105, 106, 107, 108, 109, 110, 111, 112, 113, 114, 115, 116, 117, 118, 119, 120, 121, 122] (by rfl)) (pd_var (pv 6))))) pa_dnil))))) (pss_done (ps_dif (pt_eqd hr.units (pd_get (pd_var (pv 2)) (pd_var (pv 5))) (pd_str [63] (by rfl))) (pss_done (ps_dset (i := 4) sc_ulawunear.nd rfl (.inl rfl) (pd_add (pd_var (pv 4)) (pd_get (pd_str [97, 98, 99, 100, 101, 102, 103, 104, 105, 106, 107, 108, 109, 110, 111, 112, 113, 114, 115, 116, 117, 118, 119, 120, 121, 122] (by rfl)) (pd_get (pd_var (pv 3)) (pd_var (pv 5))))))) (pss_done (ps_dset (i := 4) sc_ulawunear.nd rfl (.inl rfl) (pd_add (pd_var (pv 4)) (pd_get (pd_var (pv 2)) (pd_var (pv 5)))))))))))
    (pss_dcons (ps_dif (pt_gtd (pd_get (pd_var (pv 3)) pd_int) pd_int) (pss_done (ps_dset (i := 4) sc_ulawunear.nd rfl (.inl rfl) (pd_add (pd_var (pv 4)) (pd_get (pd_str [97, 98, 99, 100, 101, 102, 103, 104, 105, 106, 107, 108, 109, 110, 111, 112, 113, 114, 115, 116, 117, 118, 119, 120, 121, 122] (by rfl)) (pd_get (pd_var (pv 3)) pd_int))))) pss_dnil)
    (pss_dcons (ps_dif (pt_ltg hr.units (pd_get (pd_var (pv 3)) pd_int) pd_int) (pss_done (ps_dset (i := 4) sc_ulawunear.nd rfl (.inl rfl) (pd_slice (pd_var (pv 4)) (po_dsome pd_int) po_dnone))) pss_dnil)
    (pss_done (ps_dret (pd_var (pv 4)))))))))
abbrev s_ulawuclass : Stmt := topS 33
theorem sc_ulawuclass : FnScope ["patterns", "text", "signs"] ["patterns", "text"] (defScope s_ulawuclass) := ⟨rfl, rfl, rfl, by decide +kernel, rfl, by decide +kernel, by decide +kernel⟩
def e_ulawuclass_1 : SE :=
    (callD m_ulawumatches [] (consA (varE 2) (consA (varE 1) nilA)))
def b_ulawuclass : SS :=
    (retS (callE tupleC (consA (compE [2] (srcE (varE 0)) (.nm 2) none e_ulawuclass_1) nilA)))
def m_ulawuclass : List SV → Option FR := defM 2 1 b_ulawuclass
theorem ok_ulawuclass {P : Program} {w : World} {K : PySem.W.Frag} {mg : Str → Option Value} {base : Heap} {f : Addr} {fd : FuncData} (F : Fun K "_law_class" "_law_class" s_ulawuclass f fd) (z_tuple : mg "tuple" = none) (c_ulawumatches : Def P w K mg base 1 "_law_matches" 2 m_ulawumatches []) : FnOk P w K mg base CX0 2 f fd ["patterns", "text"] (spD K 2 m_ulawuclass) :=
  fnd (k := 1) (n := 1) F sc_ulawuclass rfl fun cdv A outer s H E hr =>
    (pss_done (ps_dret (pd_callTy cr_tuple snd_tuple z_tuple rfl (pa_dcons (pd_comp (own := [("signs", 2)]) (by rfl) sc_ulawuclass.nd (blk_of (N := ["patterns", "text", "signs"]) (sc := defScope s_ulawuclass) (by decide +kernel)) (by rfl) (pi_dsrc (pd_var (pv 0))) (fun s H C cl fp => (pg_dnm sc_ulawuclass.nd rfl (.inl rfl))) (fun s H C cl fp => pts_dnil) (fun s H C cl fp => (pd_callN c_ulawumatches hr (by decide) (pa_dcons (pd_var (pv 2)) (pa_dcons (pd_var (pv 1)) pa_dnil))))) pa_dnil))))
abbrev s_ulawubefore : Stmt := topS 34
theorem sc_ulawubefore : FnScope ["first", "second"] ["first", "second"] (defScope s_ulawubefore) := ⟨rfl, rfl, rfl, by decide +kernel, rfl, by decide +kernel, by decide +kernel⟩
def b_ulawubefore : SS :=
    (seqS (iteS (two (op2 neD) (callE lenD (consA (varE 0) nilA)) (callE lenD (consA (varE 1) nilA))) (retS (two (op2 ltG) (callE lenD (consA (varE 0) nilA)) (callE lenD (consA (varE 1) nilA)))) skipS)
    (retS (two (op2 ltG) (varE 0) (varE 1))))
def m_ulawubefore : List SV → Option FR := defM 2 0 b_ulawubefore
theorem ok_ulawubefore {P : Program} {w : World} {K : PySem.W.Frag} {mg : Str → Option Value} {base : Heap} {f : Addr} {fd : FuncData} (F : Fun K "_law_before" "_law_before" s_ulawubefore f fd) (z_len : mg "len" = none)  : FnOk P w K mg base CX0 1 f fd ["first", "second"] (spD K 2 m_ulawubefore) :=
  fnd (k := 0) (n := 0) F sc_ulawubefore rfl fun cdv A outer s H E hr =>
    (pss_dcons (ps_dif (pt_ned hr.units (pd_callB cr_len snd_len z_len rfl (pa_dcons (pd_var (pv 0)) pa_dnil)) (pd_callB cr_len snd_len z_len rfl (pa_dcons (pd_var (pv 1)) pa_dnil))) (pss_done (ps_dret (pd_ltg hr.units (pd_callB cr_len snd_len z_len rfl (pa_dcons (pd_var (pv 0)) pa_dnil)) (pd_callB cr_len snd_len z_len rfl (pa_dcons (pd_var (pv 1)) pa_dnil))))) pss_dnil)
    (pss_done (ps_dret (pd_ltg hr.units (pd_var (pv 0)) (pd_var (pv 1))))))
abbrev s_ulawuisutext : Stmt := topS 35
theorem sc_ulawuisutext : FnScope ["value", "letter"] ["value"] (defScope s_ulawuisutext) := ⟨rfl, rfl, rfl, by decide +kernel, rfl, by decide +kernel, by decide +kernel⟩
def l_ulawuisutext_1 : SS :=
    (iteS (orE (two (op2 ltG) (callE ordC (consA (varE 1) nilA)) (constE (.int 97))) (two (op2 gtD) (callE ordC (consA (varE 1) nilA)) (constE (.int 122)))) (retS (constE (.bl false))) skipS)
def b_ulawuisutext : SS :=
    (seqS (iteS (notE (isiE "str" (varE 0))) (retS (constE (.bl false))) skipS)
    (seqS (forS (srcE (varE 0)) (.nm 1) l_ulawuisutext_1)
    (retS (constE (.bl true)))))
def m_ulawuisutext : List SV → Option FR := defM 1 1 b_ulawuisutext
theorem ok_ulawuisutext {P : Program} {w : World} {K : PySem.W.Frag} {mg : Str → Option Value} {base : Heap} {f : Addr} {fd : FuncData} (F : Fun K "_law_is_text" "_law_is_text" s_ulawuisutext f fd) (z_isinstance : mg "isinstance" = none) (z_ord : mg "ord" = none) (z_str : mg "str" = none)  : FnOk P w K mg base CX0 1 f fd ["value"] (spD K 1 m_ulawuisutext) :=
  fnd (k := 0) (n := 1) F sc_ulawuisutext rfl fun cdv A outer s H E hr =>
    (pss_dcons (ps_dif (pt_dnot (pt_d (pd_isi (n := "str") (by decide) z_isinstance z_str rfl (pd_var (pv 0))))) (pss_done (ps_dret pd_bl)) pss_dnil)
    (pss_dcons (ps_dfor PassesOwn.never rfl (pi_dsrc (pd_var (pv 0))) (pg_dnm sc_ulawuisutext.nd rfl (.inl rfl)) (pss_done (ps_dif ((pw_dor (pt_ltg hr.units (pd_callB cr_ord snd_ord z_ord rfl (pa_dcons (pd_var (pv 1)) pa_dnil)) pd_int) (pw_dor1 (pt_gtd (pd_callB cr_ord snd_ord z_ord rfl (pa_dcons (pd_var (pv 1)) pa_dnil)) pd_int)))).pt (pss_done (ps_dret pd_bl)) pss_dnil)))
    (pss_done (ps_dret pd_bl))))
abbrev s_law : Stmt := topS 36
theorem sc_law : FnScope ["script", "patterns", "text", "kinds", "count", "due", "rows", "last", "k", "witness", "kind", "item", "signs"] ["script"] (defScope s_law) := ⟨rfl, rfl, rfl, by decide +kernel, rfl, by decide +kernel, by decide +kernel⟩
def e_law_1 : SE :=
    (callD m_first_texts [.tup []] (consA (callE listG (consA (varE 1) nilA)) (consA (varE 10) (consA (varE 4) nilA))))
def e_law_2 : SE :=
    (isiE "bool" (varE 11))
def e_law_3 : SE :=
    (constE (.bl true))
def l_law_4 : SS :=
    (seqS (iteS (orE (notE (isiE "tuple" (two (op2 getD) (varE 3) (varE 8)))) (two (op2 inG) (two (op2 getD) (varE 3) (varE 8)) (sliceE (varE 3) none (some (varE 8))))) (retS (constE (.bl false))) skipS)
    (seqS (iteS (two (op2 neD) (compE [11] (srcE (two (op2 getD) (varE 3) (varE 8))) (.nm 11) none e_law_2) (compE [12] (srcE (varE 1)) (.nm 12) none e_law_3)) (retS (constE (.bl false))) skipS)
    (seqS (asgS 9 (callD m_first_text [.tup []] (consA (callE listG (consA (varE 1) nilA)) (consA (two (op2 getD) (varE 3) (varE 8)) nilA))))
    (seqS (iteS (orE (notE (callD m_ulawuisutext [] (consA (varE 9) nilA))) (two (op2 neD) (callD m_ulawuclass [] (consA (varE 1) (consA (varE 9) nilA))) (two (op2 getD) (varE 3) (varE 8)))) (retS (constE (.bl false))) skipS)
    (seqS (iteS (andE (two (op2 isNotD) (varE 7) (constE .non)) (notE (callD m_ulawubefore [] (consA (varE 7) (consA (varE 9) nilA))))) (retS (constE (.bl false))) skipS)
    (seqS (iteS (andE (two (op2 eqD) (two (op2 getD) (varE 3) (varE 8)) (varE 5)) (callD m_ulawubefore [] (consA (varE 2) (consA (varE 9) nilA)))) (retS (constE (.bl false))) skipS)
    (asgS 7 (varE 9))))))))
def b_law : SS :=
    (seqS (asgS 1 (callD m_ulawupatterns [] (consA (varE 0) (consA (constE (.int 0)) (consA (constE (.int 3)) nilA)))))
    (seqS (asgS 2 (callD m_ulawutext [] (consA (callD m_ulawucell [] (consA (varE 0) (consA (constE (.int 5)) nilA))) (consA (two (op2 modD) (callE intC (consA (callD m_ulawucell [] (consA (varE 0) (consA (constE (.int 6)) nilA))) nilA)) (constE (.int 13))) nilA))))
    (seqS (iteS (andE (two (op2 gtD) (callE lenD (consA (varE 1) nilA)) (constE (.int 0))) (two (op2 gtD) (two (op2 modD) (callE intC (consA (callD m_ulawucell [] (consA (varE 0) (consA (constE (.int 7)) nilA))) nilA)) (constE (.int 3))) (constE (.int 0)))) (asgS 2 (callD m_ulawunear [] (consA (varE 0) (consA (constE (.int 8)) (consA (two (op2 getD) (varE 1) (two (op2 modD) (callE intC (consA (callD m_ulawucell [] (consA (varE 0) (consA (constE (.int 9)) nilA))) nilA)) (callE lenD (consA (varE 1) nilA)))) nilA))))) skipS)
    (seqS (asgS 3 (callD m_all_classes [] (consA (callE listG (consA (varE 1) nilA)) nilA)))
    (seqS (asgS 4 (two (op2 modD) (callE intC (consA (callD m_ulawucell [] (consA (varE 0) (consA (constE (.int 10)) nilA))) nilA)) (constE (.int 4))))
    (seqS (asgS 5 (callD m_ulawuclass [] (consA (varE 1) (consA (varE 2) nilA))))
    (seqS (iteS (orE (notE (isiE "list" (varE 3))) (two (op2 notInG) (varE 5) (varE 3))) (retS (constE (.bl false))) skipS)
    (seqS (asgS 6 (callD m_first_rows [] (consA (callE listG (consA (varE 1) nilA)) (consA (varE 4) nilA))))
    (seqS (iteS (orE (notE (isiE "list" (varE 6))) (two (op2 neD) (varE 6) (compE [10] (srcE (varE 3)) (.nm 10) none e_law_1))) (retS (constE (.bl false))) skipS)
    (seqS (asgS 7 (constE .non))
    (seqS (forS (argsI rng1 (consA (callE lenD (consA (varE 3) nilA)) nilA)) (.nm 8) l_law_4)
    (retS (constE (.bl true))))))))))))))
def m_law : List SV → Option FR := defM 1 12 b_law
theorem ok_law {P : Program} {w : World} {K : PySem.W.Frag} {mg : Str → Option Value} {base : Heap} {f : Addr} {fd : FuncData} (F : Fun K "law" "law" s_law f fd) (z_bool : mg "bool" = none) (z_int : mg "int" = none) (z_isinstance : mg "isinstance" = none) (z_len : mg "len" = none) (z_list : mg "list" = none) (z_range : mg "range" = none) (z_tuple : mg "tuple" = none) (c_ulawupatterns : Def P w K mg base 3 "_law_patterns" 3 m_ulawupatterns []) (c_ulawucell : Def P w K mg base 1 "_law_cell" 2 m_ulawucell []) (c_ulawutext : Def P w K mg base 2 "_law_text" 2 m_ulawutext []) (c_ulawunear : Def P w K mg base 2 "_law_near" 3 m_ulawunear []) (c_all_classes : Def P w K mg base 5 "all_classes" 1 m_all_classes []) (c_ulawuclass : Def P w K mg base 2 "_law_class" 2 m_ulawuclass []) (c_first_rows : Def P w K mg base 6 "first_rows" 2 m_first_rows []) (c_first_texts_1 : Def P w K mg base 5 "first_texts" 4 m_first_texts [.tup []]) (c_first_text_1 : Def P w K mg base 6 "first_text" 3 m_first_text [.tup []]) (c_ulawuisutext : Def P w K mg base 1 "_law_is_text" 1 m_ulawuisutext []) (c_ulawubefore : Def P w K mg base 1 "_law_before" 2 m_ulawubefore []) : FnOk P w K mg base CX0 7 f fd ["script"] (spD K 1 m_law) :=
  fnd (k := 6) (n := 12) F sc_law rfl fun cdv A outer s H E hr =>
    (pss_dcons (ps_dset (i := 1) sc_law.nd rfl (.inr rfl) (pd_callN c_ulawupatterns hr (by decide) (pa_dcons (pd_var (pv 0)) (pa_dcons pd_int (pa_dcons pd_int pa_dnil)))))
    (pss_dcons (ps_dset (i := 2) sc_law.nd rfl (.inl rfl) (pd_callN c_ulawutext hr (by decide) (pa_dcons (pd_callN c_ulawucell hr (by decide) (pa_dcons (pd_var (pv 0)) (pa_dcons pd_int pa_dnil))) (pa_dcons (pd_mod (pd_callTy cr_int snd_intC z_int rfl (pa_dcons (pd_callN c_ulawucell hr (by decide) (pa_dcons (pd_var (pv 0)) (pa_dcons pd_int pa_dnil))) pa_dnil)) pd_int) pa_dnil))))
    (pss_dcons (ps_dif ((pw_dand (pt_gtd (pd_callB cr_len snd_len z_len rfl (pa_dcons (pd_var (pv 1)) pa_dnil)) pd_int) (pw_dand1 (pt_gtd (pd_mod (pd_callTy cr_int snd_intC z_int rfl (pa_dcons (pd_callN c_ulawucell hr (by decide) (pa_dcons (pd_var (pv 0)) (pa_dcons pd_int pa_dnil))) pa_dnil)) pd_int) pd_int)))).pt (pss_done (ps_dset (i := 2) sc_law.nd rfl (.inl rfl) (pd_callN c_ulawunear hr (by decide) (pa_dcons (pd_var (pv 0)) (pa_dcons pd_int (pa_dcons (pd_get (pd_var (pv 1)) (pd_mod (pd_callTy cr_int snd_intC z_int rfl (pa_dcons (pd_callN c_ulawucell hr (by decide) (pa_dcons (pd_var (pv 0)) (pa_dcons pd_int pa_dnil))) pa_dnil)) (pd_callB cr_len snd_len z_len rfl (pa_dcons (pd_var (pv 1)) pa_dnil)))) pa_dnil)))))) pss_dnil)
    (pss_dcons (ps_dset (i := 3) sc_law.nd rfl (.inl rfl) (pd_callN c_all_classes hr (by decide) (pa_dcons (pd_callTy (Dw.CallR.or cr_list (cr_listT rfl)) snd_listG z_list rfl (pa_dcons (pd_var (pv 1)) pa_dnil)) pa_dnil)))
    (pss_dcons (ps_dset (i := 4) sc_law.nd rfl (.inr rfl) (pd_mod (pd_callTy cr_int snd_intC z_int rfl (pa_dcons (pd_callN c_ulawucell hr (by decide) (pa_dcons (pd_var (pv 0)) (pa_dcons pd_int pa_dnil))) pa_dnil)) pd_int))
    (pss_dcons (ps_dset (i := 5) sc_law.nd rfl (.inl rfl) (pd_callN c_ulawuclass hr (by decide) (pa_dcons (pd_var (pv 1)) (pa_dcons (pd_var (pv 2)) pa_dnil))))
    (pss_dcons (ps_dif ((pw_dor (pt_dnot (pt_d (pd_isi (n := "list") (by decide) z_isinstance z_list rfl (pd_var (pv 3))))) (pw_dor1 (pt_notInGd (r65 hr) (pd_var (pv 5)) (pd_var (pv 3)))))).pt (pss_done (ps_dret pd_bl)) pss_dnil)
    (pss_dcons (ps_dset (i := 6) sc_law.nd rfl (.inl rfl) (pd_callN c_first_rows hr (by decide) (pa_dcons (pd_callTy (Dw.CallR.or cr_list (cr_listT rfl)) snd_listG z_list rfl (pa_dcons (pd_var (pv 1)) pa_dnil)) (pa_dcons (pd_var (pv 4)) pa_dnil))))
    (pss_dcons (ps_dif ((pw_dor (pt_dnot (pt_d (pd_isi (n := "list") (by decide) z_isinstance z_list rfl (pd_var (pv 6))))) (pw_dor1 (pt_ned hr.units (pd_var (pv 6)) (pd_comp (own := [("kind", 10)]) (by rfl) sc_law.nd (blk_of (N := ["script", "patterns", "text", "kinds", "count", "due", "rows", "last", "k", "witness", "kind", "item", "signs"]) (sc := defScope s_law) (by decide +kernel)) (by rfl) (pi_dsrc (pd_var (pv 3))) (fun s H C cl fp => (pg_dnm sc_law.nd rfl (.inl rfl))) (fun s H C cl fp => pts_dnil) (fun s H C cl fp => (pd_callN c_first_texts_1 hr (by decide) (pa_dcons (pd_callTy (Dw.CallR.or cr_list (cr_listT rfl)) snd_listG z_list rfl (pa_dcons (pd_var (pv 1)) pa_dnil)) (pa_dcons (pd_var (pv 10)) (pa_dcons (pd_var (pv 4)) pa_dnil)))))))))).pt (pss_done (ps_dret pd_bl)) pss_dnil)
    (pss_dcons (ps_dset (i := 7) sc_law.nd rfl (.inl rfl) pd_non)
    (pss_dcons (ps_dfor PassesOwn.never rfl (pi_drange1 z_range (pa_dcons (pd_callB cr_len snd_len z_len rfl (pa_dcons (pd_var (pv 3)) pa_dnil)) pa_dnil)) (pg_dnm sc_law.nd rfl (.inl rfl)) (pss_dcons (ps_dif ((pw_dor (pt_dnot (pt_d (pd_isi (n := "tuple") (by decide) z_isinstance z_tuple rfl (pd_get (pd_var (pv 3)) (pd_var (pv 8)))))) (pw_dor1 (pt_inGd (r65 hr) (pd_get (pd_var (pv 3)) (pd_var (pv 8))) (pd_slice (pd_var (pv 3)) po_dnone (po_dsome (pd_var (pv 8)))))))).pt (pss_done (ps_dret pd_bl)) pss_dnil)
    (pss_dcons (ps_dif (pt_ned hr.units (pd_comp (own := [("item", 11)]) (by rfl) sc_law.nd (blk_of (N := ["script", "patterns", "text", "kinds", "count", "due", "rows", "last", "k", "witness", "kind", "item", "signs"]) (sc := defScope s_law) (by decide +kernel)) (by rfl) (pi_dsrc (pd_get (pd_var (pv 3)) (pd_var (pv 8)))) (fun s H C cl fp => (pg_dnm sc_law.nd rfl (.inl rfl))) (fun s H C cl fp => pts_dnil) (fun s H C cl fp => (pd_isi (n := "bool") (by decide) z_isinstance z_bool rfl (pd_var (pv 11))))) (pd_comp (own := [("signs", 12)]) (by rfl) sc_law.nd (blk_of (N := ["script", "patterns", "text", "kinds", "count", "due", "rows", "last", "k", "witness", "kind", "item", "signs"]) (sc := defScope s_law) (by decide +kernel)) (by rfl) (pi_dsrc (pd_var (pv 1))) (fun s H C cl fp => (pg_dnm sc_law.nd rfl (.inl rfl))) (fun s H C cl fp => pts_dnil) (fun s H C cl fp => pd_bl))) (pss_done (ps_dret pd_bl)) pss_dnil)
    (pss_dcons (ps_dset (i := 9) sc_law.nd rfl (.inl rfl) (pd_callN c_first_text_1 hr (by decide) (pa_dcons (pd_callTy (Dw.CallR.or cr_list (cr_listT rfl)) snd_listG z_list rfl (pa_dcons (pd_var (pv 1)) pa_dnil)) (pa_dcons (pd_get (pd_var (pv 3)) (pd_var (pv 8))) pa_dnil))))
    (pss_dcons (ps_dif ((pw_dor (pt_dnot (pt_d (pd_callN c_ulawuisutext hr (by decide) (pa_dcons (pd_var (pv 9)) pa_dnil)))) (pw_dor1 (pt_ned hr.units (pd_callN c_ulawuclass hr (by decide) (pa_dcons (pd_var (pv 1)) (pa_dcons (pd_var (pv 9)) pa_dnil))) (pd_get (pd_var (pv 3)) (pd_var (pv 8))))))).pt (pss_done (ps_dret pd_bl)) pss_dnil)
    (pss_dcons (ps_dif ((pw_dand (pt_isNotd (pd_var (pv 7)) pd_non) (pw_dand1 (pt_dnot (pt_d (pd_callN c_ulawubefore hr (by decide) (pa_dcons (pd_var (pv 7)) (pa_dcons (pd_var (pv 9)) pa_dnil)))))))).pt (pss_done (ps_dret pd_bl)) pss_dnil)
    (pss_dcons (ps_dif ((pw_dand (pt_eqd hr.units (pd_get (pd_var (pv 3)) (pd_var (pv 8))) (pd_var (pv 5))) (pw_dand1 (pt_d (pd_callN c_ulawubefore hr (by decide) (pa_dcons (pd_var (pv 2)) (pa_dcons (pd_var (pv 9)) pa_dnil))))))).pt (pss_done (ps_dret pd_bl)) pss_dnil)
    (pss_done (ps_dset (i := 7) sc_law.nd rfl (.inl rfl) (pd_var (pv 9)))))))))))
    (pss_done (ps_dret pd_bl)))))))))))))
end
end P_talkalike_k09_all_classes
namespace P_talkalike_k09_all_classes
noncomputable section
open PySem PySem.Spec PyProof.Rows L2 Dw
variable [GI : Glo] [TI : Tabs]
local macro_rules | `(tactic| fail "x0") => `(tactic| (first | with_reducible exact Dw.pk_d | with_reducible exact Dw.pk_own | ((with_reducible apply Dw.pk_cv); exact rfl) | with_reducible exact Dw.pk_ownI | with_reducible exact Dw.pk_ownK | ((with_reducible apply Dw.pk_cvI); exact rfl) | ((with_reducible apply Dw.pk_cvK); exact rfl)))
local macro_rules | `(tactic| fail "x1") => `(tactic| (first | with_reducible apply Dw.pks_cons | with_reducible exact Dw.pks_nil))
local macro_rules | `(tactic| fail "x2") => `(tactic| (first | with_reducible exact Dw.frz_d | with_reducible exact Dw.frz_own | with_reducible apply Dw.frz_cv | with_reducible exact Dw.frz_ownI | with_reducible exact Dw.frz_ownU | with_reducible exact Dw.frz_ownK | ((with_reducible apply Dw.frz_cvI); (exact rfl)) | ((with_reducible apply Dw.frz_cvU); (exact rfl)) | ((with_reducible apply Dw.frz_cvK); (exact rfl))))
local macro_rules | `(tactic| fail "x3") => `(tactic| (first | with_reducible apply Dw.frzs_cons | with_reducible exact Dw.frzs_nil | with_reducible apply Dw.frzs_map))
local macro_rules | `(tactic| fail "x4") => `(tactic| (first | with_reducible apply Dw.st_d | with_reducible apply Dw.st_own | with_reducible apply Dw.st_cv))
local macro_rules | `(tactic| fail "x5") => `(tactic| (first | with_reducible exact Dw.mapd_nn | with_reducible apply Dw.mapd_c | with_reducible apply Dw.mapd_d))
local macro_rules | `(tactic| fail "x6") => `(tactic| (first | with_reducible exact Dw.set_z | with_reducible exact Dw.setg_z | with_reducible apply Dw.set_s | with_reducible apply Dw.setg_s))
local macro_rules | `(tactic| fail "x7") => `(tactic| (first | with_reducible exact Dw.tru_bl | with_reducible exact Dw.tru_int | with_reducible exact Dw.tru_non | with_reducible exact Dw.tru_lst | with_reducible exact Dw.tru_tup | with_reducible exact Dw.tru_ownl | ((with_reducible apply Dw.tru_cv); exact rfl) | with_reducible apply Dw.tru_str))
local macro_rules | `(tactic| fail "x8") => `(tactic| (first | ((with_reducible apply Dw.fs_ok); exact rfl) | ((with_reducible apply Dw.fs_at); (exact rfl); (with_reducible assumption))))
local macro_rules | `(tactic| fail "x9") => `(tactic| (first | with_reducible exact Dw.eq_str | with_reducible exact Dw.eq_int | with_reducible exact Dw.eq_bl))
local macro_rules | `(tactic| fail "x10") => `(tactic| (first | with_reducible exact Dw.ne_str | with_reducible exact Dw.ne_int | with_reducible exact Dw.ne_bl))
local macro_rules | `(tactic| fail "x11") => `(tactic| (first | with_reducible exact Dw.it_lst | with_reducible exact Dw.it_tup | with_reducible exact Dw.it_str))
local macro_rules | `(tactic| fail "x12") => `(tactic| (first | with_reducible exact Dw.len_lst | with_reducible exact Dw.len_tup | with_reducible apply Dw.len_str))
local macro_rules | `(tactic| fail "x13") => `(tactic| (first | with_reducible exact Dw.add_int' | with_reducible apply Dw.add_lst | with_reducible apply Dw.add_str))
local macro_rules | `(tactic| fail "x14") => `(tactic| (first | with_reducible exact Dw.cut_tup | with_reducible exact Dw.cut_lst | with_reducible apply Dw.cut_str))
local macro_rules | `(tactic| fail "x15") => `(tactic| (first | with_reducible exact Dw.res_d | with_reducible exact Dw.res_own | ((with_reducible apply Dw.res_cv); exact rfl)))
local macro_rules | `(tactic| fail "x16") => `(tactic| (first | with_reducible exact Dw.ret_d | with_reducible exact Dw.ret_own))
local macro_rules | `(tactic| fail "x17") => `(tactic| (first | with_reducible exact Dw.bk_nil | with_reducible apply Dw.bk_d | with_reducible apply Dw.bk_own))
local macro_rules | `(tactic| fail "x18") => `(tactic| (first | with_reducible apply Dw.put_nm | with_reducible apply Dw.put_two | with_reducible apply Dw.put_tcons | with_reducible exact Dw.put_tnil))
local macro_rules | `(tactic| fail "x19") => `(tactic| (first | with_reducible exact Dw.lt_int' | with_reducible exact Dw.lt_str'))
local macro_rules | `(tactic| fail "x20") => `(tactic| (first | with_reducible exact Dw.lg_lst | with_reducible exact Dw.lg_tup | with_reducible apply Dw.lg_str))
local macro_rules | `(tactic| fail "x21") => `(tactic| (first | with_reducible exact Dw.lh_lst | with_reducible exact Dw.lh_tup | with_reducible exact Dw.lh_dct))
local macro_rules | `(tactic| fail "x22") => `(tactic| (first | with_reducible exact Dw.list_lst | with_reducible exact Dw.list_tup))
local macro_rules | `(tactic| fail "x23") => `(tactic| (first | with_reducible exact Dw.tup_lst | with_reducible exact Dw.tup_tup))
local macro_rules | `(tactic| fail "x24") => `(tactic| (first | with_reducible exact Dw.int_int | with_reducible exact Dw.int_bl))
local macro_rules | `(tactic| fail "x25") => `(tactic| (first | with_reducible exact Dw.ty_str | with_reducible exact Dw.ty_lst))
local macro_rules | `(tactic| fail "x26") => `(tactic| (first | with_reducible exact Dw.st_lst | with_reducible exact Dw.st_tup))
local macro_rules | `(tactic| fail "x27") => `(tactic| (first | ((with_reducible apply Dw.lkN_here); (decide +kernel)) | ((with_reducible apply Dw.lkN_next); (decide +kernel))))
local macro_rules | `(tactic| fail "x28") => `(tactic| (first | with_reducible exact Dw.pfn_nil | ((with_reducible apply Dw.pfn_ne); (decide +kernel))))
local macro_rules | `(tactic| fail "x29") => `(tactic| (first | with_reducible exact Dw.pfv_nil | ((with_reducible apply Dw.pfv_ne); (decide +kernel))))
local macro_rules | `(tactic| fail "x30") => `(tactic| (first | with_reducible exact Dw.rp_z | with_reducible apply Dw.rp_c | with_reducible apply Dw.rp_s))
local macro_rules | `(tactic| fail "x31") => `(tactic| (first | with_reducible exact Dw.look_place | with_reducible exact Dw.look_word))
local macro_rules | `(tactic| fail "x32") => `(tactic| (first | ((with_reducible show Dw.putFv _ _ _ _ = _); (fail "x29")) | ((with_reducible show (_ : List Dw.SV) ++ _ = _); (fail "x30")) | ((with_reducible show List.lookup _ _ = _); (fail "x31")) | ((with_reducible apply Dw.gE); exact rfl) | ((with_reducible show (_ : List _)[_]? = some _); exact rfl) | with_reducible exact Dw.lst_eq | ((with_reducible show Dw.okI _ = true); exact rfl) | ((with_reducible show Dw.Tg.isT _ = true); exact rfl)))
local macro_rules | `(tactic| fail "x33") => `(tactic| (first | ((with_reducible show Dw.ordC _ = _); with_reducible exact Dw.ord_str) | ((with_reducible show Dw.strG _ = _); with_reducible exact Dw.strG_s) | ((with_reducible show Dw.tyD _ = _); (fail "x25")) | ((with_reducible show Dw.starL _ = _); (fail "x26")) | ((with_reducible show Dw.insOf _ _ = _); with_reducible exact Dw.ins_of) | ((with_reducible show Dw.fldD _ _ = _); with_reducible apply Dw.fld_at) | ((with_reducible show Dw.lookN _ _ _ = _); (fail "x27")) | ((with_reducible show Dw.putFn _ _ = _); (fail "x28")) | (fail "x32")))
local macro_rules | `(tactic| fail "x34") => `(tactic| (first | ((with_reducible show Dw.gtD _ _ = _); with_reducible exact Dw.gt_int') | ((with_reducible show Dw.geD _ _ = _); with_reducible exact Dw.ge_int') | ((with_reducible show Dw.negD _ = _); with_reducible exact Dw.neg_int') | ((with_reducible show Dw.listG _ = _); (fail "x20")) | ((with_reducible show Dw.listH _ = _); (fail "x21")) | ((with_reducible show Dw.listC _ = _); (fail "x22")) | ((with_reducible show Dw.tupleC _ = _); (fail "x23")) | ((with_reducible show Dw.intC _ = _); (fail "x24")) | (fail "x33")))
local macro_rules | `(tactic| fail "x35") => `(tactic| (first | ((with_reducible show Dw.cutD _ _ _ = _); (fail "x14")) | ((with_reducible show Dw.resV _ _ = _); (fail "x15")) | ((with_reducible show Dw.retV _ = _); (fail "x16")) | ((with_reducible show Dw.backs _ _ = _); (fail "x17")) | ((with_reducible show Dw.putT _ _ _ = _); (fail "x18")) | ((with_reducible show Dw.inG _ _ = _); with_reducible apply Dw.inG_in) | ((with_reducible show Dw.ltG _ _ = _); (fail "x19")) | ((with_reducible show Dw.leD _ _ = _); with_reducible exact Dw.le_int') | (fail "x34")))
local macro_rules | `(tactic| fail "x36") => `(tactic| (first | ((with_reducible show Dw.eqD _ _ = _); (fail "x9")) | ((with_reducible show Dw.neD _ _ = _); (fail "x10")) | ((with_reducible show Dw.getD _ _ = _); with_reducible apply Dw.get_str) | ((with_reducible show Dw.itemsD _ = _); (fail "x11")) | ((with_reducible show Dw.lenD _ = _); (fail "x12")) | ((with_reducible show Dw.addD _ _ = _); (fail "x13")) | ((with_reducible show Dw.subD _ _ = _); with_reducible exact Dw.sub_int') | ((with_reducible show Dw.appU _ _ = _); with_reducible apply Dw.app_ok) | (fail "x35")))
local macro_rules | `(tactic| fail "x37") => `(tactic| (first | ((with_reducible show Dw.pks _ _ = _); (fail "x1")) | ((with_reducible show Dw.frz _ _ = _); (fail "x2")) | ((with_reducible show Dw.frzs _ _ = _); (fail "x3")) | ((with_reducible show Dw.storeR _ _ _ = _); (fail "x4")) | ((with_reducible show List.map _ _ = _); (fail "x5")) | ((with_reducible show List.set _ _ _ = _); (fail "x6")) | ((with_reducible show Dw.tru _ _ = _); (fail "x7")) | ((with_reducible show Dw.freeSlot _ = _); (fail "x8")) | (fail "x36")))
local macro_rules | `(tactic| fail "x38") => `(tactic| (first | with_reducible assumption | with_reducible exact Dw.EvR.h | with_reducible exact Dw.SetR.h | with_reducible exact Dw.MapR.h | with_reducible exact Dw.RepR.h | ((with_reducible show (_ : Nat) ≤ _); ((try simp only [List.length_cons, List.length_nil, List.length_map, List.length_append, List.length_range, List.length_singleton] at *) <;> omega)) | ((with_reducible show (_ : Nat) < _); ((try simp only [List.length_cons, List.length_nil, List.length_map, List.length_append, List.length_range, List.length_singleton] at *) <;> omega)) | ((with_reducible show Dw.pk _ _ = _); (fail "x0")) | (fail "x37")))
local macro_rules | `(tactic| fail "S") => `(tactic| (focus ((repeat' (fail "x38")); done)))
local macro_rules | `(tactic| fail "x40") => `(tactic| (first | ((with_reducible apply Dw.w_opT); (fail "S")) | ((with_reducible apply Dw.w_op); (fail "S"); (fail "S"); (fail "S"))))
local macro_rules | `(tactic| fail "x41") => `(tactic| (first | ((with_reducible apply Dw.w_op1T); (fail "S")) | ((with_reducible apply Dw.w_op1); (fail "S"); (fail "S")) | ((with_reducible apply Dw.w_isi1); (fail "S"); (fail "S")) | ((with_reducible apply Dw.w_met1); (fail "S"); (fail "S")) | ((with_reducible apply Dw.w_met2); (fail "S"); (fail "S"); (fail "S")) | ((with_reducible apply Dw.w_sl1); (fail "S"); (fail "S")) | ((with_reducible apply Dw.w_chain1); (fail "S"); (fail "S"); (fail "S"))))
local macro_rules | `(tactic| fail "x42") => `(tactic| (first | ((with_reducible apply Dw.w_opET); (fail "S")) | ((with_reducible apply Dw.w_opE); (fail "S"); (fail "S"))))
local macro_rules | `(tactic| fail "x43") => `(tactic| (first | ((with_reducible apply Dw.w_callD1); (fail "S"); (fail "S")) | ((with_reducible apply Dw.w_tup1); (fail "S"); (fail "S")) | ((with_reducible apply Dw.w_lst1); (fail "S"); (fail "S")) | ((with_reducible apply Dw.w_mut2); (fail "S"); (fail "S"); (fail "S"); (fail "S")) | ((with_reducible apply Dw.w_new1); (fail "S"); (fail "S")) | ((with_reducible apply Dw.w_meth2); (fail "S"); (fail "S"))))
local macro_rules | `(tactic| fail "x44") => `(tactic| (first | ((with_reducible apply Dw.w_prop1); (fail "S"); (fail "S")) | ((with_reducible apply Dw.w_meth1); (fail "S"); (fail "S"))))
local macro_rules | `(tactic| fail "x45") => `(tactic| (first | with_reducible apply Dw.w_retN | with_reducible apply Dw.w_brk | with_reducible apply Dw.w_cnt | with_reducible apply Dw.w_raise | with_reducible apply Dw.w_raiseN | with_reducible apply Dw.w_setL | with_reducible apply Dw.w_setK | with_reducible apply Dw.w_setF))
local macro_rules | `(tactic| fail "x46") => `(tactic| (first | with_reducible apply Dw.w_seq | with_reducible apply Dw.w_asg | with_reducible apply Dw.w_ret | with_reducible apply Dw.w_ite | with_reducible apply Dw.w_expr | with_reducible apply Dw.w_for | with_reducible apply Dw.w_skip | with_reducible apply Dw.w_asgT | (fail "x45")))
local macro_rules | `(tactic| fail "x47") => `(tactic| (first | ((with_reducible apply Dw.w_not1); (fail "S")) | ((with_reducible apply Dw.w_lenSet1); (fail "S"); (fail "S"))))
local macro_rules | `(tactic| fail "x48") => `(tactic| (first | ((with_reducible apply Dw.w_bet1); (fail "S")) | ((with_reducible apply Dw.w_rev1); (fail "S")) | ((with_reducible apply Dw.w_rv1); (fail "S"); (fail "S"))))
local macro_rules | `(tactic| fail "x49") => `(tactic| (first | with_reducible apply Dw.w_bo1 | with_reducible apply Dw.w_bo0 | ((with_reducible apply Dw.w_callM1); (fail "S"); (fail "S"); (fail "S"); (fail "S"); (fail "S"); (fail "S")) | ((with_reducible apply Dw.w_mut1); (fail "S")) | ((with_reducible apply Dw.w_ext1); (fail "S")) | ((with_reducible apply Dw.w_ext2); (fail "S"); (fail "S"); (fail "S")) | ((with_reducible apply Dw.w_pop1); (fail "S"); (fail "S"); (fail "S")) | ((with_reducible apply Dw.w_all1); (fail "S")) | (fail "x48")))
local macro_rules | `(tactic| fail "x50") => `(tactic| (first | with_reducible apply Dw.w_lenSet | with_reducible apply Dw.w_newK | with_reducible apply Dw.w_dispE | with_reducible apply Dw.w_cmpN | with_reducible apply Dw.w_rv))
local macro_rules | `(tactic| fail "x51") => `(tactic| (first | with_reducible apply Dw.w_all | with_reducible apply Dw.w_bet | with_reducible apply Dw.w_rev | with_reducible apply Dw.w_rg | with_reducible apply Dw.w_chain | with_reducible apply Dw.w_callD0 | ((with_reducible apply Dw.w_xf); (fail "S"); (fail "S")) | ((with_reducible apply Dw.w_isx); (fail "S")) | (fail "x50")))
local macro_rules | `(tactic| fail "x52") => `(tactic| (first | with_reducible apply Dw.w_mut | with_reducible apply Dw.w_callM | with_reducible apply Dw.w_ext | with_reducible apply Dw.w_comp | with_reducible apply Dw.w_prop | with_reducible apply Dw.w_meth | with_reducible apply Dw.w_new | with_reducible apply Dw.w_pop | (fail "x51")))
local macro_rules | `(tactic| fail "x53") => `(tactic| (first | with_reducible apply Dw.w_lst | with_reducible apply Dw.w_tup | with_reducible apply Dw.w_ife | with_reducible apply Dw.w_and | with_reducible apply Dw.w_or | with_reducible apply Dw.w_not | with_reducible apply Dw.w_met | with_reducible apply Dw.w_sl | (fail "x52")))
local macro_rules | `(tactic| fail "x54") => `(tactic| (first | ((with_reducible apply Dw.w_var); exact rfl) | with_reducible apply Dw.w_const | ((with_reducible apply Dw.w_varO); exact rfl) | with_reducible apply Dw.w_two | with_reducible apply Dw.w_callE | with_reducible apply Dw.w_callD | with_reducible apply Dw.w_isi | with_reducible apply Dw.w_one | (fail "x53")))
local macro_rules | `(tactic| fail "x55") => `(tactic| (first | with_reducible apply Dw.w_cons | with_reducible apply Dw.w_nil | with_reducible apply Dw.w_star))
local macro_rules | `(tactic| fail "x56") => `(tactic| (first | with_reducible apply Dw.w_src | with_reducible apply Dw.w_args | with_reducible apply Dw.w_enum | with_reducible apply Dw.w_zip))
local macro_rules | `(tactic| fail "x57") => `(tactic| (first | ((with_reducible apply Dw.w_src1T); (fail "S")) | ((with_reducible apply Dw.w_src1); (fail "S"); (fail "S")) | ((with_reducible apply Dw.w_args1); (fail "S"); (fail "S")) | ((with_reducible apply Dw.w_enum1); (fail "S")) | ((with_reducible apply Dw.w_enum2); (fail "S")) | ((with_reducible apply Dw.w_zip1); (fail "S"); (fail "S"); (fail "S"))))
local macro_rules | `(tactic| fail "x58") => `(tactic| (first | ((with_reducible apply Dw.w_out1); (fail "S")) | ((with_reducible apply Dw.w_out2); (fail "S"); (fail "S")) | ((with_reducible apply Dw.w_raise1); (fail "S"))))
local macro_rules | `(tactic| fail "x59") => `(tactic| (first | with_reducible exact Dw.w_n4 | ((with_reducible refine Dw.w_hT ?_ ?_); (with_reducible assumption)) | ((with_reducible refine Dw.w_hF ?_); (with_reducible assumption)) | ((with_reducible refine Dw.w_gT ?_ ?_); (with_reducible assumption)) | ((with_reducible refine Dw.w_gF ?_); (with_reducible assumption))))
local macro_rules | `(tactic| fail "x60") => `(tactic| (first | with_reducible refine Dw.w_ff ?_ | with_reducible exact Dw.w_tf | with_reducible exact Dw.w_ft | with_reducible refine Dw.w_n1 ?_ | with_reducible exact Dw.w_n2 | with_reducible refine Dw.w_n3 ?_ | (fail "x59")))
local macro_rules | `(tactic| fail "x61") => `(tactic| (first | ((with_reducible show Dw.wSet _ _ _ _); ((with_reducible apply Dw.w_set); (fail "S"))) | ((with_reducible show Dw.wStar _ _ _); ((with_reducible apply Dw.w_star1); (fail "S"); (fail "S"))) | ((with_reducible show Dw.wFd _ _ _ _ _); ((with_reducible apply Dw.w_fd); (fail "S"); (fail "S"); (fail "S"); (fail "S"); (fail "S"); (fail "S"))) | ((with_reducible show Dw.wBd _ _); with_reducible apply Dw.wBd_c) | ((with_reducible show ∃ _, _); (fail "x58")) | with_reducible refine Dw.w_tt ?_ | (fail "x60")))
local macro_rules | `(tactic| fail "x62") => `(tactic| (first | ((with_reducible show Dw.wE _ _ _ _); (fail "x54")) | ((with_reducible show Dw.wA _ _ _ _); (fail "x55")) | ((with_reducible show Dw.wI _ _ _ _); (fail "x56")) | ((with_reducible show Dw.wri _ _ _); (fail "x57")) | ((with_reducible show Dw.wbo _ _ _ _ _); ((with_reducible apply Dw.w_bo2); (fail "S"))) | ((with_reducible show Dw.wTu _ _ _ _); ((with_reducible apply Dw.w_tu); (fail "S"); (fail "S"))) | (fail "x61")))
local macro_rules | `(tactic| fail "x63") => `(tactic| (first | ((with_reducible show Dw.wSt _ _ _ _); ((with_reducible apply Dw.w_st); (fail "S"))) | ((with_reducible show Dw.wB _ _ _ _); ((with_reducible apply Dw.w_b); (fail "S"))) | ((with_reducible show Dw.wC _ _ _ _); ((with_reducible apply Dw.wC_ok); (fail "S"); (fail "S"))) | ((with_reducible show Dw.wr (Option.map _ _) _ _); (fail "x47")) | ((with_reducible show Dw.wr _ _ _); (fail "x49")) | ((with_reducible show Dw.wM _ _ _ _ _ _ _); ((with_reducible apply Dw.wM_ok); (fail "S"); (fail "S"); (fail "S"); (fail "S"))) | (fail "x62")))
local macro_rules | `(tactic| fail "x64") => `(tactic| (first | ((with_reducible show Dw.wr (Dw.op2 _ _ _ _) _ _); (fail "x40")) | ((with_reducible show Dw.wr (Option.bind (Dw.pk _ _) _) _ _); (fail "x41")) | ((with_reducible show Dw.wr (Option.bind (Dw.pks _ _) _) _ _); (fail "x42")) | ((with_reducible show Dw.wr (Option.bind (Dw.frzs _ _) _) _ _); (fail "x43")) | ((with_reducible show Dw.wr (Option.bind (Dw.frz _ _) _) _ _); (fail "x44")) | ((with_reducible show Dw.wS _ _ _ _); (fail "x46")) | (fail "x63")))
local macro_rules | `(tactic| fail "V") => `(tactic| (first | with_reducible apply Dw.VR.h | (fail "x64")))
section
/-- texts of ordinary signs, not too long -/
def okS (x : List Nat) : Prop := x.length ≤ 1000 ∧ ∀ c ∈ x, c < 128
theorem okS.len {x : List Nat} (h : okS x) : x.length ≤ sizeLine := Nat.le_trans h.1 (by decide)
theorem strOk_of {x : List Nat} (h : ∀ c ∈ x, c < 128) : PyData.strOk (mk x) = true := by
  unfold PyData.strOk
  rw [Array.all_eq_true]
  intro i hi
  have : (mk x).cps[i] ∈ x := by simp [mk]
  have := h _ this
  simp; omega
abbrev dI (ns : List Int) : List D := ns.map D.int
def cellZ (ns : List Int) (k : Nat) : Int := ns.getD k 0
theorem atI_int {ns : List Int} {k : Nat} (h : k < ns.length) : L2.atI (dI ns) (k : Int) = some (.int (cellZ ns k)) := by
  refine L2.atI_nat ?_
  unfold cellZ
  rw [List.getElem?_map, List.getElem?_eq_getElem h]
  simp [List.getD_eq_getElem?_getD, h]
theorem ev_cell {ns : List Int} {k : Nat} : m_ulawucell [.d (.lst (dI ns)), .d (.int k)] = some (.ok (.d (.int (cellZ ns k))) [.d (.lst (dI ns)), .d (.int k)]) := by
  by_cases h : k < ns.length
  · have h' : ((k : Int) < (ns.length : Int)) := by omega
    have ha := atI_int h
    simp only [dI] at ha
    simp [dI, ha, m_ulawucell, defM, runF, b_ulawucell, seqS, iteS, two, op2, varE, varS, pk, callE, consA, nilA, bindEA, bindA, mapA, pks, lenD, ltG, h, h', bindS, tru, truD, skipS, retS, getD, resV, backs, noX]
  · have h' : ¬ ((k : Int) < (ns.length : Int)) := by omega
    simp [m_ulawucell, defM, runF, b_ulawucell, seqS, iteS, two, op2, varE, varS, pk, callE, consA, nilA, bindEA, bindA, mapA, pks, lenD, ltG, h, h', bindS, tru, truD, skipS, retS, getD, resV, backs, noX, cellZ]
/-- a slot that may be written, and holds no thing of one's own -/
def flat : SV → Bool
  | .own _ _ => false
  | .xn _ => false
  | _ => true
theorem big_c : big64 48271 = true ∧ big64 69621 = true ∧ big64 16807 = true := ⟨big64_iff.mpr (by decide), big64_iff.mpr (by decide), big64_iff.mpr (by decide)⟩
theorem big_of {n : Int} (h0 : 0 ≤ n) (h : n < 2147483648) : big64 n = true := by
  rw [big64_iff]
  omega
theorem row_turn {c cnt b : Int} {rs : List Int} {k : Nat} {u v : SV} (hb : 0 < b) (hb2 : b < 1073741824) (hu : flat u = true) (hv : flat v = true) (hr : rs.length < 100000) :
    ∃ c' r v', 0 ≤ r ∧ r < b ∧ flat v' = true ∧ l_ulawurow_1 [.d (.int c), .d (.int cnt), .d (.int b), .own false (.lst (dI rs)), .d (.int k), v] = some (.nx [.d (.int c'), .d (.int cnt), .d (.int b), .own false (.lst (dI (rs ++ [r]))), .d (.int k), v']) := by
  have fv : v = .un ∨ ∃ y, v = .d y := by
    cases v with
    | own b c => simp [flat] at hv
    | xn e => simp [flat] at hv
    | un => exact .inl rfl
    | d y => exact .inr ⟨y, rfl⟩
  by_cases h : (10 : Int) ^ 18 ≤ c
  · refine ⟨c / b, c % b, v, Int.emod_nonneg _ (by omega), Int.emod_lt_of_pos _ hb, hv, ?_⟩
    have h' : (1000000000000000000 : Int) ≤ c := by simpa using h
    simp [l_ulawurow_1, seqS, iteS, two, op2, varE, varS, pk, pkS, callE, consA, nilA, bindEA, bindA, mapA, pks, geD, powD, Dw.intD, powI_18, h', bindS, tru, truD, exprS, mutE, ownL, intC, modD, modI_ok, hb, hb2, frzs, frz, appU, hr, asgS, fdivD, fdivI_ok, storeR, setSlot, freeSlot, dI]
  · have h' : ¬ (1000000000000000000 : Int) ≤ c := by simpa using h
    obtain ⟨bc1, bc2, bc3⟩ := big_c
    generalize e1 : (c * 48271 + (k : Int) * 69621 + 12345) % 2147483647 = n1
    have a1 : 0 ≤ n1 := by rw [← e1]; exact Int.emod_nonneg _ (by decide)
    have a2 : n1 < 2147483648 := by rw [← e1]; exact Int.lt_trans (Int.emod_lt_of_pos _ (by decide)) (by decide)
    have g1 := big_of a1 a2
    generalize e2 : (n1 * n1 + 16807 * (k : Int) + 7) % 998244353 = n2
    have a3 : 0 ≤ n2 := by rw [← e2]; exact Int.emod_nonneg _ (by decide)
    have a4 : n2 < 2147483648 := by rw [← e2]; exact Int.lt_trans (Int.emod_lt_of_pos _ (by decide)) (by decide)
    have g2 := big_of a3 a4
    generalize e3 : (n2 * n2 + 48271 * (k : Int) + c) % 2147483629 = n3
    refine ⟨c, (n3 / 13) % b, .d (.int n3), Int.emod_nonneg _ (by omega), Int.emod_lt_of_pos _ hb, rfl, ?_⟩
    rcases fv with rfl | ⟨y, rfl⟩ <;> simp [l_ulawurow_1, seqS, iteS, two, op2, varE, varS, pk, pkS, callE, consA, nilA, bindEA, bindA, mapA, pks, geD, powD, Dw.intD, powI_18, h', bindS, tru, truD, exprS, mutE, ownL, intC, modD, modI_ok, mulD, mulI_l, mulI_r, addD, bc1, bc2, bc3, e1, g1, e2, g2, e3, hb, hb2, frzs, frz, appU, hr, asgS, fdivD, fdivI_ok, storeR, setSlot, freeSlot, dI]
theorem row_loop {cnt b : Int} (hb : 0 < b) (hb2 : b < 1073741824) : ∀ (ks : List Nat) (c : Int) (rs : List Int) (u v : SV), flat u = true → flat v = true → rs.length + ks.length ≤ 100000 →
    ∃ c' rs' u' v', (∀ r ∈ rs', 0 ≤ r ∧ r < b) ∧ rs'.length = ks.length ∧ loopD (.nm 4) l_ulawurow_1 (ks.map fun i => .int (i : Nat)) [.d (.int c), .d (.int cnt), .d (.int b), .own false (.lst (dI rs)), u, v] = some (.nx [.d (.int c'), .d (.int cnt), .d (.int b), .own false (.lst (dI (rs ++ rs'))), u', v'])
  | [], c, rs, u, v, hu, hv, _ => ⟨c, [], u, v, by simp, rfl, by simp [loopD]⟩
  | k :: ks, c, rs, u, v, hu, hv, hl => by
    rw [List.length_cons] at hl
    obtain ⟨c1, r, v1, h1, h2, h3, h4⟩ := row_turn (c := c) (cnt := cnt) (rs := rs) (k := k) (u := u) (v := v) hb hb2 hu hv (by omega)
    obtain ⟨c2, rs2, u2, v2, h5, h6, h7⟩ := row_loop hb hb2 ks c1 (rs ++ [r]) (.d (.int k)) v1 rfl h3 (by simp; omega)
    have fu : freeSlot (some u) = true := by
      cases u with
      | own b c => simp [flat] at hu
      | xn e => simp [flat] at hu
      | _ => rfl
    refine ⟨c2, r :: rs2, u2, v2, fun x hx => ?_, by simp [h6], ?_⟩
    · rcases List.mem_cons.mp hx with rfl | hx
      · exact ⟨h1, h2⟩
      · exact h5 x hx
    · rw [List.map_cons, loopD]
      simp only [putT, setSlot, List.getElem?_cons_succ, List.getElem?_cons_zero, fu, if_true, Option.bind_some, List.set_cons_succ, List.set_cons_zero]
      rw [h4]
      dsimp only
      rw [h7, List.append_assoc]
      rfl
theorem ev_row {c : Int} {n : Nat} {b : Int} (hn : n ≤ 100000) (hb : 0 < b) (hb2 : b < 1073741824) : ∃ rs : List Int, (∀ r ∈ rs, 0 ≤ r ∧ r < b) ∧ rs.length = n ∧ ∃ o, m_ulawurow [.d (.int c), .d (.int n), .d (.int b)] = some (.ok (.own (.lst (dI rs))) o) := by
  obtain ⟨c', rs, u, v, h1, h2, h3⟩ := row_loop (cnt := n) hb hb2 (List.range n) c [] .un .un rfl rfl (by simpa using hn)
  rw [List.length_range] at h2
  simp only [dI, List.map_nil, List.nil_append] at h3
  refine ⟨rs, h1, h2, [.d (.int c), .d (.int n), .d (.int b)], ?_⟩
  have r1 := rng1_nat (n := n) (by omega)
  simp [m_ulawurow, defM, runF, b_ulawurow, seqS, lstE, bindA, nilA, frzs, asgS, bindS, storeR, setSlot, freeSlot, forS, argsI, consA, varE, varS, bindEA, mapA, bindAI, pks, pk, r1, h3, retS, resV, resS, backs, noX, dI]
def letters : List Nat := [97, 98, 99, 100, 101, 102, 103, 104, 105, 106, 107, 108, 109, 110, 111, 112, 113, 114, 115, 116, 117, 118, 119, 120, 121, 122]
def letterAt (r : Int) : Nat := 97 + r.toNat
theorem letters_at : ∀ k : Fin 26, letters[k.val]? = some (97 + k.val) := by decide
theorem atI_letter {r : Int} (h0 : 0 ≤ r) (h : r < 26) : L2.atI letters r = some (letterAt r) := by
  have e : r = ((r.toNat : Nat) : Int) := by omega
  rw [e]
  refine L2.atI_nat ?_
  rw [letters_at ⟨r.toNat, by omega⟩]
  unfold letterAt
  rfl
theorem elt_ok {c n : D} {r : Int} (h0 : 0 ≤ r) (h : r < 26) : e_ulawutext_1 [.d c, .d n, .d (.int r)] = some (.ok (.d (.str [letterAt r])) [.d c, .d n, .d (.int r)]) := by
  have ha := atI_letter h0 h
  unfold letters at ha
  have hl : [97, 98, 99, 100, 101, 102, 103, 104, 105, 106, 107, 108, 109, 110, 111, 112, 113, 114, 115, 116, 117, 118, 119, 120, 121, 122].length ≤ sizeLine := by decide
  simp only [e_ulawutext_1, two, ev_const, bindE_ok, varE, varS, List.getElem?_cons_succ, List.getElem?_cons_zero, Option.map_some, op2, pk, Option.bind_some, getD]
  rw [if_pos hl, ha]
  rfl
theorem comp_ok {c n : D} : ∀ (rs : List Int) (acc : List D), (∀ r ∈ rs, 0 ≤ r ∧ r < 26) → acc.length + rs.length ≤ 100000 → compD [2] (.nm 2) none e_ulawutext_1 (dI rs) acc [.d c, .d n, .un] = some (acc ++ rs.map fun r => .str [letterAt r], [.d c, .d n, .un])
  | [], acc, _, _ => by simp [compD]
  | r :: rs, acc, h, hl => by
    rw [List.length_cons] at hl
    obtain ⟨h0, h1⟩ := h r (List.mem_cons_self ..)
    have ih := comp_ok (c := c) (n := n) rs (acc ++ [.str [letterAt r]]) (fun x hx => h x (List.mem_cons_of_mem _ hx)) (by simp; omega)
    have hc : acc.length < 100000 := by omega
    rw [dI, List.map_cons, compD]
    simp only [putT, setSlot, List.getElem?_cons_succ, List.getElem?_cons_zero, freeSlot, if_true, Option.bind_some, List.set_cons_succ, List.set_cons_zero, bindTD, eltD]
    rw [elt_ok h0 h1]
    simp only [frz, Option.bind_some]
    rw [if_pos hc]
    simp only [clr, List.set_cons_succ, List.set_cons_zero]
    rw [show List.map D.int rs = dI rs from rfl, ih, List.append_assoc]
    rfl
theorem txts_of (rs : List Int) : txts (rs.map fun r => .str [letterAt r]) = some (rs.map fun r => [letterAt r]) := by
  induction rs with
  | nil => rfl
  | cons r rs ih => rw [List.map_cons, txts, ih]; rfl
theorem joinL_nil : ∀ (ys : List (List Nat)), TL.joinL [] ys = ys.flatten
  | [] => rfl
  | [y] => by simp [TL.joinL]
  | y :: z :: r => by
    rw [TL.joinL, joinL_nil (z :: r)]
    rfl
theorem flat_of (rs : List Int) : (rs.map fun r => [letterAt r]).flatten = rs.map letterAt := by
  induction rs with
  | nil => rfl
  | cons r rs ih => rw [List.map_cons, List.flatten_cons, ih]; rfl
theorem sum_ones (rs : List Int) : ((rs.map fun r => [letterAt r]).map (·.length)).sum = rs.length := by
  induction rs with
  | nil => rfl
  | cons r rs ih => rw [List.map_cons, List.map_cons, List.sum_cons, ih, List.length_cons, List.length_cons]; simp; omega
/-- a text of letters -/
def okL (x : List Nat) : Prop := x.length ≤ 1000 ∧ ∀ c ∈ x, 97 ≤ c ∧ c < 123
theorem ev_text {c : Int} {n : Nat} (hn : n ≤ 70) : ∃ x : List Nat, okL x ∧ x.length ≤ 70 ∧ ∃ o, m_ulawutext [.d (.int c), .d (.int n)] = some (.ok (.d (.str x)) o) := by
  obtain ⟨rs, h1, h2, o, h3⟩ := ev_row (c := c) (n := n) (b := 26) (by omega) (by decide) (by decide)
  have hlen : (rs.map letterAt).length ≤ 70 := by rw [List.length_map]; omega
  refine ⟨rs.map letterAt, ⟨by omega, fun z hz => ?_⟩, hlen, [.d (.int c), .d (.int n)], ?_⟩
  · obtain ⟨r, hr, rfl⟩ := List.mem_map.mp hz
    have := h1 r hr
    unfold letterAt
    omega
  · have hc := comp_ok (c := .int c) (n := .int n) rs [] h1 (by simp; omega)
    have e1 : compE [2] (srcE (callD m_ulawurow [] (consA (varE 0) (consA (varE 1) (consA (constE (.int 26)) nilA))))) (.nm 2) none e_ulawutext_1 [.d (.int c), .d (.int n), .un] = some (.ok (.own (.lst (rs.map fun r => .str [letterAt r]))) [.d (.int c), .d (.int n), .un]) := by
      have e2 : srcE (callD m_ulawurow [] (consA (varE 0) (consA (varE 1) (consA (constE (.int 26)) nilA)))) [.d (.int c), .d (.int n), .un] = some (.ok (dI rs) [.d (.int c), .d (.int n), .un]) := by
        simp [srcE, callD, consA, nilA, varE, varS, bindEA, bindA, mapA, frzs, frz, h3, outD, retV, bindI, itemsD]
      unfold compE
      rw [e2]
      simp only [clr, List.set_cons_succ, List.set_cons_zero]
      rw [hc]
      rfl
    have e3 : joinD (.str []) [.lst (rs.map fun r => .str [letterAt r])] = some (.d (.str (rs.map letterAt))) := by
      simp only [joinD]
      rw [txts_of, Option.bind_some, joinL_nil, flat_of, if_pos (by rw [sum_ones]; simp; omega)]
    simp [m_ulawutext, defM, runF, b_ulawutext, retS, metE, tyD, consA, e1, nilA, bindEA, bindA, mapA, pk, pks, e3, bindS, resV, backs, noX]
theorem modN {c : Int} {n : Nat} (h : 0 < n) : ∃ k : Nat, c % (n : Int) = k ∧ k < n := ⟨(c % (n : Int)).toNat, by
  have := Int.emod_nonneg c (b := (n : Int)) (by omega)
  omega, by
  have := Int.emod_nonneg c (b := (n : Int)) (by omega)
  have := Int.emod_lt_of_pos c (b := (n : Int)) (by omega)
  omega⟩
/-- the first k signs of p match the first j letters of t -/
def Mb (p t : List Nat) : Nat → Nat → Bool
  | 0, 0 => true
  | 0, _ + 1 => false
  | k + 1, 0 => (p.getD k 0 == 42) && Mb p t k 0
  | k + 1, j + 1 => if (p.getD k 0 == 42) = true then Mb p t k (j + 1) || Mb p t (k + 1) j else Mb p t k j && (p.getD k 0 == 63 || p.getD k 0 == t.getD j 0)
termination_by k j => (k, j)
theorem inB_int (z : Int) : ∀ ls : List Int, inB (.int z) (dI ls) = decide (z ∈ ls)
  | [] => rfl
  | a :: ls => by
    have ih := inB_int z ls
    unfold inB at ih ⊢
    rw [dI, List.map_cons, List.any_cons, ih]
    by_cases h : a = z
    · subst h; simp [eqB]
    · have h' : ¬ z = a := fun e => h e.symm
      simp [eqB, h, h']
theorem flat_dI (ls : List Int) : (dI ls).all flatD = true := by
  rw [List.all_eq_true]
  intro x hx
  obtain ⟨z, _, rfl⟩ := List.mem_map.mp hx
  rfl
theorem in_tupI0 {z : Int} {ls : List Int} : inD (.int z) (.tup (dI ls)) = some (.d (.bl (decide (z ∈ ls)))) := by
  show (if flatD (.int z) && (dI ls).all flatD then some (RV.d (.bl (inB (.int z) (dI ls)))) else none) = _
  rw [flat_dI, inB_int]
  rfl
theorem in_lstI0 {z : Int} {ls : List Int} : inD (.int z) (.lst (dI ls)) = some (.d (.bl (decide (z ∈ ls)))) := by
  show (if (flatD (.int z) && (dI ls).all flatD) || _ then some (RV.d (.bl (inB (.int z) (dI ls)))) else none) = _
  rw [flat_dI, inB_int]
  rfl
theorem in_two0 {a b c : List Nat} : inD (.str a) (.tup [.str b, .str c]) = some (.d (.bl (a == b || a == c))) := by
  show (if (flatD (.str a) && [D.str b, .str c].all flatD) = true then some (RV.d (.bl (inB (.str a) [.str b, .str c]))) else none) = _
  rw [if_pos (show (flatD (.str a) && [D.str b, .str c].all flatD) = true by rfl)]
  unfold inB
  simp only [List.any_cons, List.any_nil, Bool.or_false, eqB]
  rw [show (b == a) = (a == b) from BEq.comm, show (c == a) = (a == c) from BEq.comm]
theorem in_tupI {z : Int} {ls : List Int} : inG (.int z) (.tup (dI ls)) = some (.d (.bl (decide (z ∈ ls)))) := inG_in in_tupI0
theorem in_lstI {z : Int} {ls : List Int} : inG (.int z) (.lst (dI ls)) = some (.d (.bl (decide (z ∈ ls)))) := inG_in in_lstI0
theorem in_two {a b c : List Nat} : inG (.str a) (.tup [.str b, .str c]) = some (.d (.bl (a == b || a == c))) := inG_in in_two0
theorem len2 {a b : D} : [a, b].length ≤ 100000 := show 2 ≤ 100000 by decide
theorem one_eq (a b : Nat) : ([a] == [b]) = (a == b) := by
  by_cases h : a = b
  · subst h; simp
  · simp [h]
/-- the turn of next_lengths at sign i -/
theorem next_turn {p t : List Nat} {ls fs : List Int} {i j s : Nat} {m : Bool} (hs : p.getD i 0 = s) (hi : i < p.length) (hf : fs.length ≤ 1000)
    (hls : ∀ k : Nat, k ≤ p.length → ((k : Int) ∈ ls ↔ Mb p t k j = true)) (hm : m = Mb p t i (j + 1)) :
    l_next_lengths_1 [.d (.str p), .d (.tup (dI ls)), .d (.str [t.getD j 0]), .own false (.lst (dI fs)), .d (.bl m), .d (.int i), .d (.str [s])] =
      some (.nx [.d (.str p), .d (.tup (dI ls)), .d (.str [t.getD j 0]), .own false (.lst (dI (if Mb p t (i + 1) (j + 1) = true then fs ++ [(i : Int) + 1] else fs))), .d (.bl (Mb p t (i + 1) (j + 1))), .d (.int i), .d (.str [s])]) := by
  have e1 : (((i : Int) + 1) ∈ ls) ↔ Mb p t (i + 1) j = true := by
    have := hls (i + 1) (by omega)
    push_cast at this
    exact this
  have e2 : ((i : Int) ∈ ls) ↔ Mb p t i j = true := hls i (by omega)
  have tail : ∀ b : Bool, iteS (varE 4) (exprS (mutE appU (varE 3) (consA (two (op2 addD) (varE 5) (constE (.int 1))) nilA))) skipS [.d (.str p), .d (.tup (dI ls)), .d (.str [t.getD j 0]), .own false (.lst (dI fs)), .d (.bl b), .d (.int i), .d (.str [s])] =
      some (.nx [.d (.str p), .d (.tup (dI ls)), .d (.str [t.getD j 0]), .own false (.lst (dI (if b = true then fs ++ [(i : Int) + 1] else fs))), .d (.bl b), .d (.int i), .d (.str [s])]) := by
    intro b
    cases b with
    | false => exact ev_iteF (a := .d (.bl false)) (ev_var rfl) rfl ev_skip
    | true =>
      refine ev_iteT (a := .d (.bl true)) (ev_var rfl) rfl ?_
      have a1 : appU (dI fs) [.int ((i : Int) + 1)] = some (.non, dI fs ++ [.int ((i : Int) + 1)]) := Dw.app_ok (by rw [dI, List.length_map]; omega)
      have a2 : dI (fs ++ [(i : Int) + 1]) = dI fs ++ [.int ((i : Int) + 1)] := by rw [dI, dI, List.map_append]; rfl
      rw [if_pos rfl, a2]
      repeat' (first | with_reducible exact a1 | with_reducible exact Dw.ty_str | with_reducible exact Dw.ty_lst | with_reducible exact Dw.lst_eq | with_reducible exact Dw.set_z | with_reducible exact Dw.ret_d | with_reducible exact Dw.ret_own | with_reducible exact Dw.mapd_nn | with_reducible exact Dw.ev_const | with_reducible exact Dw.ev_nil | with_reducible exact Dw.pk_d | with_reducible exact Dw.pk_own | with_reducible exact Dw.pks_nil | with_reducible exact Dw.frz_d | with_reducible exact Dw.frz_own | with_reducible exact Dw.frzs_nil | with_reducible exact Dw.tru_bl | with_reducible exact Dw.ev_skip | with_reducible exact Dw.len_lst | with_reducible exact Dw.len_tup | with_reducible exact Dw.eq_int | with_reducible exact Dw.ne_int | with_reducible exact Dw.eq_str | with_reducible exact Dw.ne_str | with_reducible exact Dw.eq_bl | with_reducible exact Dw.ne_bl | with_reducible exact Dw.lt_int' | with_reducible exact Dw.lt_str' | with_reducible exact Dw.le_int' | with_reducible exact Dw.gt_int' | with_reducible exact Dw.ge_int' | with_reducible exact Dw.add_int' | with_reducible exact Dw.sub_int' | with_reducible exact Dw.neg_int' | with_reducible exact Dw.ord_str | with_reducible exact Dw.int_int | with_reducible exact Dw.int_bl | with_reducible exact Dw.list_lst | with_reducible exact Dw.list_tup | with_reducible exact Dw.tup_lst | with_reducible exact Dw.tup_tup | with_reducible exact Dw.it_lst | with_reducible exact Dw.it_tup | with_reducible exact Dw.it_str | ((with_reducible apply Dw.ev_var); exact rfl) | ((with_reducible apply Dw.ev_varO); exact rfl) | ((with_reducible apply Dw.pk_cv); exact rfl) | ((with_reducible apply Dw.fs_ok); exact rfl) | ((with_reducible apply Dw.gE); exact rfl) | with_reducible apply Dw.ev_two | with_reducible apply Dw.ev_one | with_reducible apply Dw.ev_cons | with_reducible apply Dw.pks_cons | with_reducible apply Dw.ev_callE | with_reducible apply Dw.ev_isi | with_reducible apply Dw.frzs_cons | with_reducible apply Dw.ev_tup | with_reducible apply Dw.ev_lst | with_reducible apply Dw.ev_not | with_reducible apply Dw.ev_met | with_reducible apply Dw.ev_mut | with_reducible apply Dw.ev_ret | with_reducible apply Dw.ev_expr | with_reducible apply Dw.ev_asg | with_reducible apply Dw.ev_args | with_reducible apply Dw.ev_src | with_reducible apply Dw.ev_callD | with_reducible apply Dw.mapd_c | with_reducible apply Dw.mapd_d | with_reducible apply Dw.set_s | with_reducible apply Dw.st_d | with_reducible apply Dw.st_own | with_reducible apply Dw.st_cv | with_reducible apply Dw.frz_cv | ((with_reducible apply Dw.len_str); assumption) | ((with_reducible apply Dw.get_str) <;> assumption) | with_reducible assumption | ((with_reducible show Dw.okI _ = true); exact rfl))
  unfold l_next_lengths_1
  refine ev_seq2 (env1 := [.d (.str p), .d (.tup (dI ls)), .d (.str [t.getD j 0]), .own false (.lst (dI fs)), .d (.bl (Mb p t (i + 1) (j + 1))), .d (.int i), .d (.str [s])]) ?_ (tail _)
  have c1 : two (op2 eqD) (varE 6) (constE (.str [42])) [.d (.str p), .d (.tup (dI ls)), .d (.str [t.getD j 0]), .own false (.lst (dI fs)), .d (.bl m), .d (.int i), .d (.str [s])] = some (.ok (.d (.bl ([s] == [42]))) [.d (.str p), .d (.tup (dI ls)), .d (.str [t.getD j 0]), .own false (.lst (dI fs)), .d (.bl m), .d (.int i), .d (.str [s])]) := by
    repeat' (first  | with_reducible exact Dw.ty_str | with_reducible exact Dw.ty_lst | with_reducible exact Dw.lst_eq | with_reducible exact Dw.set_z | with_reducible exact Dw.ret_d | with_reducible exact Dw.ret_own | with_reducible exact Dw.mapd_nn | with_reducible exact Dw.ev_const | with_reducible exact Dw.ev_nil | with_reducible exact Dw.pk_d | with_reducible exact Dw.pk_own | with_reducible exact Dw.pks_nil | with_reducible exact Dw.frz_d | with_reducible exact Dw.frz_own | with_reducible exact Dw.frzs_nil | with_reducible exact Dw.tru_bl | with_reducible exact Dw.ev_skip | with_reducible exact Dw.len_lst | with_reducible exact Dw.len_tup | with_reducible exact Dw.eq_int | with_reducible exact Dw.ne_int | with_reducible exact Dw.eq_str | with_reducible exact Dw.ne_str | with_reducible exact Dw.eq_bl | with_reducible exact Dw.ne_bl | with_reducible exact Dw.lt_int' | with_reducible exact Dw.lt_str' | with_reducible exact Dw.le_int' | with_reducible exact Dw.gt_int' | with_reducible exact Dw.ge_int' | with_reducible exact Dw.add_int' | with_reducible exact Dw.sub_int' | with_reducible exact Dw.neg_int' | with_reducible exact Dw.ord_str | with_reducible exact Dw.int_int | with_reducible exact Dw.int_bl | with_reducible exact Dw.list_lst | with_reducible exact Dw.list_tup | with_reducible exact Dw.tup_lst | with_reducible exact Dw.tup_tup | with_reducible exact Dw.it_lst | with_reducible exact Dw.it_tup | with_reducible exact Dw.it_str | ((with_reducible apply Dw.ev_var); exact rfl) | ((with_reducible apply Dw.ev_varO); exact rfl) | ((with_reducible apply Dw.pk_cv); exact rfl) | ((with_reducible apply Dw.fs_ok); exact rfl) | ((with_reducible apply Dw.gE); exact rfl) | with_reducible apply Dw.ev_two | with_reducible apply Dw.ev_one | with_reducible apply Dw.ev_cons | with_reducible apply Dw.pks_cons | with_reducible apply Dw.ev_callE | with_reducible apply Dw.ev_isi | with_reducible apply Dw.frzs_cons | with_reducible apply Dw.ev_tup | with_reducible apply Dw.ev_lst | with_reducible apply Dw.ev_not | with_reducible apply Dw.ev_met | with_reducible apply Dw.ev_mut | with_reducible apply Dw.ev_ret | with_reducible apply Dw.ev_expr | with_reducible apply Dw.ev_asg | with_reducible apply Dw.ev_args | with_reducible apply Dw.ev_src | with_reducible apply Dw.ev_callD | with_reducible apply Dw.mapd_c | with_reducible apply Dw.mapd_d | with_reducible apply Dw.set_s | with_reducible apply Dw.st_d | with_reducible apply Dw.st_own | with_reducible apply Dw.st_cv | with_reducible apply Dw.frz_cv | ((with_reducible apply Dw.len_str); assumption) | ((with_reducible apply Dw.get_str) <;> assumption) | with_reducible assumption | ((with_reducible show Dw.okI _ = true); exact rfl))
  rw [one_eq] at c1
  cases hb : s == 42 with
  | true =>
    rw [hb] at c1
    refine ev_iteT c1 rfl ?_
    have e3 : Mb p t (i + 1) (j + 1) = (m || decide (((i : Int) + 1) ∈ ls)) := by
      rw [Mb, hs, hb, if_pos rfl, hm]
      congr 1
      rw [Bool.eq_iff_iff, decide_eq_true_eq]
      exact e1.symm
    rw [e3]
    refine ev_asg (ev_orB (by repeat' (first  | with_reducible exact Dw.ty_str | with_reducible exact Dw.ty_lst | with_reducible exact Dw.lst_eq | with_reducible exact Dw.set_z | with_reducible exact Dw.ret_d | with_reducible exact Dw.ret_own | with_reducible exact Dw.mapd_nn | with_reducible exact Dw.ev_const | with_reducible exact Dw.ev_nil | with_reducible exact Dw.pk_d | with_reducible exact Dw.pk_own | with_reducible exact Dw.pks_nil | with_reducible exact Dw.frz_d | with_reducible exact Dw.frz_own | with_reducible exact Dw.frzs_nil | with_reducible exact Dw.tru_bl | with_reducible exact Dw.ev_skip | with_reducible exact Dw.len_lst | with_reducible exact Dw.len_tup | with_reducible exact Dw.eq_int | with_reducible exact Dw.ne_int | with_reducible exact Dw.eq_str | with_reducible exact Dw.ne_str | with_reducible exact Dw.eq_bl | with_reducible exact Dw.ne_bl | with_reducible exact Dw.lt_int' | with_reducible exact Dw.lt_str' | with_reducible exact Dw.le_int' | with_reducible exact Dw.gt_int' | with_reducible exact Dw.ge_int' | with_reducible exact Dw.add_int' | with_reducible exact Dw.sub_int' | with_reducible exact Dw.neg_int' | with_reducible exact Dw.ord_str | with_reducible exact Dw.int_int | with_reducible exact Dw.int_bl | with_reducible exact Dw.list_lst | with_reducible exact Dw.list_tup | with_reducible exact Dw.tup_lst | with_reducible exact Dw.tup_tup | with_reducible exact Dw.it_lst | with_reducible exact Dw.it_tup | with_reducible exact Dw.it_str | ((with_reducible apply Dw.ev_var); exact rfl) | ((with_reducible apply Dw.ev_varO); exact rfl) | ((with_reducible apply Dw.pk_cv); exact rfl) | ((with_reducible apply Dw.fs_ok); exact rfl) | ((with_reducible apply Dw.gE); exact rfl) | with_reducible apply Dw.ev_two | with_reducible apply Dw.ev_one | with_reducible apply Dw.ev_cons | with_reducible apply Dw.pks_cons | with_reducible apply Dw.ev_callE | with_reducible apply Dw.ev_isi | with_reducible apply Dw.frzs_cons | with_reducible apply Dw.ev_tup | with_reducible apply Dw.ev_lst | with_reducible apply Dw.ev_not | with_reducible apply Dw.ev_met | with_reducible apply Dw.ev_mut | with_reducible apply Dw.ev_ret | with_reducible apply Dw.ev_expr | with_reducible apply Dw.ev_asg | with_reducible apply Dw.ev_args | with_reducible apply Dw.ev_src | with_reducible apply Dw.ev_callD | with_reducible apply Dw.mapd_c | with_reducible apply Dw.mapd_d | with_reducible apply Dw.set_s | with_reducible apply Dw.st_d | with_reducible apply Dw.st_own | with_reducible apply Dw.st_cv | with_reducible apply Dw.frz_cv | ((with_reducible apply Dw.len_str); assumption) | ((with_reducible apply Dw.get_str) <;> assumption) | with_reducible assumption | ((with_reducible show Dw.okI _ = true); exact rfl))) (by repeat' (first | with_reducible exact in_tupI | with_reducible exact Dw.ty_str | with_reducible exact Dw.ty_lst | with_reducible exact Dw.lst_eq | with_reducible exact Dw.set_z | with_reducible exact Dw.ret_d | with_reducible exact Dw.ret_own | with_reducible exact Dw.mapd_nn | with_reducible exact Dw.ev_const | with_reducible exact Dw.ev_nil | with_reducible exact Dw.pk_d | with_reducible exact Dw.pk_own | with_reducible exact Dw.pks_nil | with_reducible exact Dw.frz_d | with_reducible exact Dw.frz_own | with_reducible exact Dw.frzs_nil | with_reducible exact Dw.tru_bl | with_reducible exact Dw.ev_skip | with_reducible exact Dw.len_lst | with_reducible exact Dw.len_tup | with_reducible exact Dw.eq_int | with_reducible exact Dw.ne_int | with_reducible exact Dw.eq_str | with_reducible exact Dw.ne_str | with_reducible exact Dw.eq_bl | with_reducible exact Dw.ne_bl | with_reducible exact Dw.lt_int' | with_reducible exact Dw.lt_str' | with_reducible exact Dw.le_int' | with_reducible exact Dw.gt_int' | with_reducible exact Dw.ge_int' | with_reducible exact Dw.add_int' | with_reducible exact Dw.sub_int' | with_reducible exact Dw.neg_int' | with_reducible exact Dw.ord_str | with_reducible exact Dw.int_int | with_reducible exact Dw.int_bl | with_reducible exact Dw.list_lst | with_reducible exact Dw.list_tup | with_reducible exact Dw.tup_lst | with_reducible exact Dw.tup_tup | with_reducible exact Dw.it_lst | with_reducible exact Dw.it_tup | with_reducible exact Dw.it_str | ((with_reducible apply Dw.ev_var); exact rfl) | ((with_reducible apply Dw.ev_varO); exact rfl) | ((with_reducible apply Dw.pk_cv); exact rfl) | ((with_reducible apply Dw.fs_ok); exact rfl) | ((with_reducible apply Dw.gE); exact rfl) | with_reducible apply Dw.ev_two | with_reducible apply Dw.ev_one | with_reducible apply Dw.ev_cons | with_reducible apply Dw.pks_cons | with_reducible apply Dw.ev_callE | with_reducible apply Dw.ev_isi | with_reducible apply Dw.frzs_cons | with_reducible apply Dw.ev_tup | with_reducible apply Dw.ev_lst | with_reducible apply Dw.ev_not | with_reducible apply Dw.ev_met | with_reducible apply Dw.ev_mut | with_reducible apply Dw.ev_ret | with_reducible apply Dw.ev_expr | with_reducible apply Dw.ev_asg | with_reducible apply Dw.ev_args | with_reducible apply Dw.ev_src | with_reducible apply Dw.ev_callD | with_reducible apply Dw.mapd_c | with_reducible apply Dw.mapd_d | with_reducible apply Dw.set_s | with_reducible apply Dw.st_d | with_reducible apply Dw.st_own | with_reducible apply Dw.st_cv | with_reducible apply Dw.frz_cv | ((with_reducible apply Dw.len_str); assumption) | ((with_reducible apply Dw.get_str) <;> assumption) | with_reducible assumption | ((with_reducible show Dw.okI _ = true); exact rfl)))) (by repeat' (first  | with_reducible exact Dw.ty_str | with_reducible exact Dw.ty_lst | with_reducible exact Dw.lst_eq | with_reducible exact Dw.set_z | with_reducible exact Dw.ret_d | with_reducible exact Dw.ret_own | with_reducible exact Dw.mapd_nn | with_reducible exact Dw.ev_const | with_reducible exact Dw.ev_nil | with_reducible exact Dw.pk_d | with_reducible exact Dw.pk_own | with_reducible exact Dw.pks_nil | with_reducible exact Dw.frz_d | with_reducible exact Dw.frz_own | with_reducible exact Dw.frzs_nil | with_reducible exact Dw.tru_bl | with_reducible exact Dw.ev_skip | with_reducible exact Dw.len_lst | with_reducible exact Dw.len_tup | with_reducible exact Dw.eq_int | with_reducible exact Dw.ne_int | with_reducible exact Dw.eq_str | with_reducible exact Dw.ne_str | with_reducible exact Dw.eq_bl | with_reducible exact Dw.ne_bl | with_reducible exact Dw.lt_int' | with_reducible exact Dw.lt_str' | with_reducible exact Dw.le_int' | with_reducible exact Dw.gt_int' | with_reducible exact Dw.ge_int' | with_reducible exact Dw.add_int' | with_reducible exact Dw.sub_int' | with_reducible exact Dw.neg_int' | with_reducible exact Dw.ord_str | with_reducible exact Dw.int_int | with_reducible exact Dw.int_bl | with_reducible exact Dw.list_lst | with_reducible exact Dw.list_tup | with_reducible exact Dw.tup_lst | with_reducible exact Dw.tup_tup | with_reducible exact Dw.it_lst | with_reducible exact Dw.it_tup | with_reducible exact Dw.it_str | ((with_reducible apply Dw.ev_var); exact rfl) | ((with_reducible apply Dw.ev_varO); exact rfl) | ((with_reducible apply Dw.pk_cv); exact rfl) | ((with_reducible apply Dw.fs_ok); exact rfl) | ((with_reducible apply Dw.gE); exact rfl) | with_reducible apply Dw.ev_two | with_reducible apply Dw.ev_one | with_reducible apply Dw.ev_cons | with_reducible apply Dw.pks_cons | with_reducible apply Dw.ev_callE | with_reducible apply Dw.ev_isi | with_reducible apply Dw.frzs_cons | with_reducible apply Dw.ev_tup | with_reducible apply Dw.ev_lst | with_reducible apply Dw.ev_not | with_reducible apply Dw.ev_met | with_reducible apply Dw.ev_mut | with_reducible apply Dw.ev_ret | with_reducible apply Dw.ev_expr | with_reducible apply Dw.ev_asg | with_reducible apply Dw.ev_args | with_reducible apply Dw.ev_src | with_reducible apply Dw.ev_callD | with_reducible apply Dw.mapd_c | with_reducible apply Dw.mapd_d | with_reducible apply Dw.set_s | with_reducible apply Dw.st_d | with_reducible apply Dw.st_own | with_reducible apply Dw.st_cv | with_reducible apply Dw.frz_cv | ((with_reducible apply Dw.len_str); assumption) | ((with_reducible apply Dw.get_str) <;> assumption) | with_reducible assumption | ((with_reducible show Dw.okI _ = true); exact rfl)))
  | false =>
    rw [hb] at c1
    refine ev_iteF c1 rfl ?_
    have e3 : Mb p t (i + 1) (j + 1) = (decide ((i : Int) ∈ ls) && ([s] == [63] || [s] == [t.getD j 0])) := by
      rw [Mb, hs, hb, if_neg Bool.false_ne_true, one_eq, one_eq]
      congr 1
      rw [Bool.eq_iff_iff, decide_eq_true_eq]
      exact e2.symm
    rw [e3]
    refine ev_asg (ev_andB (by repeat' (first | with_reducible exact in_tupI | with_reducible exact Dw.ty_str | with_reducible exact Dw.ty_lst | with_reducible exact Dw.lst_eq | with_reducible exact Dw.set_z | with_reducible exact Dw.ret_d | with_reducible exact Dw.ret_own | with_reducible exact Dw.mapd_nn | with_reducible exact Dw.ev_const | with_reducible exact Dw.ev_nil | with_reducible exact Dw.pk_d | with_reducible exact Dw.pk_own | with_reducible exact Dw.pks_nil | with_reducible exact Dw.frz_d | with_reducible exact Dw.frz_own | with_reducible exact Dw.frzs_nil | with_reducible exact Dw.tru_bl | with_reducible exact Dw.ev_skip | with_reducible exact Dw.len_lst | with_reducible exact Dw.len_tup | with_reducible exact Dw.eq_int | with_reducible exact Dw.ne_int | with_reducible exact Dw.eq_str | with_reducible exact Dw.ne_str | with_reducible exact Dw.eq_bl | with_reducible exact Dw.ne_bl | with_reducible exact Dw.lt_int' | with_reducible exact Dw.lt_str' | with_reducible exact Dw.le_int' | with_reducible exact Dw.gt_int' | with_reducible exact Dw.ge_int' | with_reducible exact Dw.add_int' | with_reducible exact Dw.sub_int' | with_reducible exact Dw.neg_int' | with_reducible exact Dw.ord_str | with_reducible exact Dw.int_int | with_reducible exact Dw.int_bl | with_reducible exact Dw.list_lst | with_reducible exact Dw.list_tup | with_reducible exact Dw.tup_lst | with_reducible exact Dw.tup_tup | with_reducible exact Dw.it_lst | with_reducible exact Dw.it_tup | with_reducible exact Dw.it_str | ((with_reducible apply Dw.ev_var); exact rfl) | ((with_reducible apply Dw.ev_varO); exact rfl) | ((with_reducible apply Dw.pk_cv); exact rfl) | ((with_reducible apply Dw.fs_ok); exact rfl) | ((with_reducible apply Dw.gE); exact rfl) | with_reducible apply Dw.ev_two | with_reducible apply Dw.ev_one | with_reducible apply Dw.ev_cons | with_reducible apply Dw.pks_cons | with_reducible apply Dw.ev_callE | with_reducible apply Dw.ev_isi | with_reducible apply Dw.frzs_cons | with_reducible apply Dw.ev_tup | with_reducible apply Dw.ev_lst | with_reducible apply Dw.ev_not | with_reducible apply Dw.ev_met | with_reducible apply Dw.ev_mut | with_reducible apply Dw.ev_ret | with_reducible apply Dw.ev_expr | with_reducible apply Dw.ev_asg | with_reducible apply Dw.ev_args | with_reducible apply Dw.ev_src | with_reducible apply Dw.ev_callD | with_reducible apply Dw.mapd_c | with_reducible apply Dw.mapd_d | with_reducible apply Dw.set_s | with_reducible apply Dw.st_d | with_reducible apply Dw.st_own | with_reducible apply Dw.st_cv | with_reducible apply Dw.frz_cv | ((with_reducible apply Dw.len_str); assumption) | ((with_reducible apply Dw.get_str) <;> assumption) | with_reducible assumption | ((with_reducible show Dw.okI _ = true); exact rfl))) (by repeat' (first | with_reducible exact in_two | with_reducible exact len2 | with_reducible exact Dw.ty_str | with_reducible exact Dw.ty_lst | with_reducible exact Dw.lst_eq | with_reducible exact Dw.set_z | with_reducible exact Dw.ret_d | with_reducible exact Dw.ret_own | with_reducible exact Dw.mapd_nn | with_reducible exact Dw.ev_const | with_reducible exact Dw.ev_nil | with_reducible exact Dw.pk_d | with_reducible exact Dw.pk_own | with_reducible exact Dw.pks_nil | with_reducible exact Dw.frz_d | with_reducible exact Dw.frz_own | with_reducible exact Dw.frzs_nil | with_reducible exact Dw.tru_bl | with_reducible exact Dw.ev_skip | with_reducible exact Dw.len_lst | with_reducible exact Dw.len_tup | with_reducible exact Dw.eq_int | with_reducible exact Dw.ne_int | with_reducible exact Dw.eq_str | with_reducible exact Dw.ne_str | with_reducible exact Dw.eq_bl | with_reducible exact Dw.ne_bl | with_reducible exact Dw.lt_int' | with_reducible exact Dw.lt_str' | with_reducible exact Dw.le_int' | with_reducible exact Dw.gt_int' | with_reducible exact Dw.ge_int' | with_reducible exact Dw.add_int' | with_reducible exact Dw.sub_int' | with_reducible exact Dw.neg_int' | with_reducible exact Dw.ord_str | with_reducible exact Dw.int_int | with_reducible exact Dw.int_bl | with_reducible exact Dw.list_lst | with_reducible exact Dw.list_tup | with_reducible exact Dw.tup_lst | with_reducible exact Dw.tup_tup | with_reducible exact Dw.it_lst | with_reducible exact Dw.it_tup | with_reducible exact Dw.it_str | ((with_reducible apply Dw.ev_var); exact rfl) | ((with_reducible apply Dw.ev_varO); exact rfl) | ((with_reducible apply Dw.pk_cv); exact rfl) | ((with_reducible apply Dw.fs_ok); exact rfl) | ((with_reducible apply Dw.gE); exact rfl) | with_reducible apply Dw.ev_two | with_reducible apply Dw.ev_one | with_reducible apply Dw.ev_cons | with_reducible apply Dw.pks_cons | with_reducible apply Dw.ev_callE | with_reducible apply Dw.ev_isi | with_reducible apply Dw.frzs_cons | with_reducible apply Dw.ev_tup | with_reducible apply Dw.ev_lst | with_reducible apply Dw.ev_not | with_reducible apply Dw.ev_met | with_reducible apply Dw.ev_mut | with_reducible apply Dw.ev_ret | with_reducible apply Dw.ev_expr | with_reducible apply Dw.ev_asg | with_reducible apply Dw.ev_args | with_reducible apply Dw.ev_src | with_reducible apply Dw.ev_callD | with_reducible apply Dw.mapd_c | with_reducible apply Dw.mapd_d | with_reducible apply Dw.set_s | with_reducible apply Dw.st_d | with_reducible apply Dw.st_own | with_reducible apply Dw.st_cv | with_reducible apply Dw.frz_cv | ((with_reducible apply Dw.len_str); assumption) | ((with_reducible apply Dw.get_str) <;> assumption) | with_reducible assumption | ((with_reducible show Dw.okI _ = true); exact rfl)))) (by repeat' (first  | with_reducible exact Dw.ty_str | with_reducible exact Dw.ty_lst | with_reducible exact Dw.lst_eq | with_reducible exact Dw.set_z | with_reducible exact Dw.ret_d | with_reducible exact Dw.ret_own | with_reducible exact Dw.mapd_nn | with_reducible exact Dw.ev_const | with_reducible exact Dw.ev_nil | with_reducible exact Dw.pk_d | with_reducible exact Dw.pk_own | with_reducible exact Dw.pks_nil | with_reducible exact Dw.frz_d | with_reducible exact Dw.frz_own | with_reducible exact Dw.frzs_nil | with_reducible exact Dw.tru_bl | with_reducible exact Dw.ev_skip | with_reducible exact Dw.len_lst | with_reducible exact Dw.len_tup | with_reducible exact Dw.eq_int | with_reducible exact Dw.ne_int | with_reducible exact Dw.eq_str | with_reducible exact Dw.ne_str | with_reducible exact Dw.eq_bl | with_reducible exact Dw.ne_bl | with_reducible exact Dw.lt_int' | with_reducible exact Dw.lt_str' | with_reducible exact Dw.le_int' | with_reducible exact Dw.gt_int' | with_reducible exact Dw.ge_int' | with_reducible exact Dw.add_int' | with_reducible exact Dw.sub_int' | with_reducible exact Dw.neg_int' | with_reducible exact Dw.ord_str | with_reducible exact Dw.int_int | with_reducible exact Dw.int_bl | with_reducible exact Dw.list_lst | with_reducible exact Dw.list_tup | with_reducible exact Dw.tup_lst | with_reducible exact Dw.tup_tup | with_reducible exact Dw.it_lst | with_reducible exact Dw.it_tup | with_reducible exact Dw.it_str | ((with_reducible apply Dw.ev_var); exact rfl) | ((with_reducible apply Dw.ev_varO); exact rfl) | ((with_reducible apply Dw.pk_cv); exact rfl) | ((with_reducible apply Dw.fs_ok); exact rfl) | ((with_reducible apply Dw.gE); exact rfl) | with_reducible apply Dw.ev_two | with_reducible apply Dw.ev_one | with_reducible apply Dw.ev_cons | with_reducible apply Dw.pks_cons | with_reducible apply Dw.ev_callE | with_reducible apply Dw.ev_isi | with_reducible apply Dw.frzs_cons | with_reducible apply Dw.ev_tup | with_reducible apply Dw.ev_lst | with_reducible apply Dw.ev_not | with_reducible apply Dw.ev_met | with_reducible apply Dw.ev_mut | with_reducible apply Dw.ev_ret | with_reducible apply Dw.ev_expr | with_reducible apply Dw.ev_asg | with_reducible apply Dw.ev_args | with_reducible apply Dw.ev_src | with_reducible apply Dw.ev_callD | with_reducible apply Dw.mapd_c | with_reducible apply Dw.mapd_d | with_reducible apply Dw.set_s | with_reducible apply Dw.st_d | with_reducible apply Dw.st_own | with_reducible apply Dw.st_cv | with_reducible apply Dw.frz_cv | ((with_reducible apply Dw.len_str); assumption) | ((with_reducible apply Dw.get_str) <;> assumption) | with_reducible assumption | ((with_reducible show Dw.okI _ = true); exact rfl)))
theorem enumL_cons (i : Nat) (x : D) (xs : List D) : enumL i (x :: xs) = .tup [.int (i : Nat), x] :: enumL (i + 1) xs := rfl
theorem conts42 : ([42] : List Nat).contains = fun c => c == 42 := by
  funext c
  by_cases h : c = 42
  · subst h; rfl
  · simp [h]
theorem M0 {t : List Nat} : ∀ (p : List Nat) (k : Nat), Mb p t k 0 = true ↔ ∀ i, i < k → p.getD i 0 = 42
  | p, 0 => by simp [Mb]
  | p, k + 1 => by
    rw [Mb, Bool.and_eq_true, M0 p k, beq_iff_eq]
    constructor
    · rintro ⟨h1, h2⟩ i hi
      by_cases e : i = k
      · rw [e]; exact h1
      · exact h2 i (by omega)
    · intro h
      exact ⟨h k (by omega), fun i hi => h i (by omega)⟩
theorem tw_spec : ∀ (p : List Nat) (k : Nat), k ≤ p.length → (k ≤ (p.takeWhile (· == 42)).length ↔ ∀ i, i < k → p.getD i 0 = 42)
  | [], k, h => by
    have : k = 0 := by simpa using h
    subst this
    simp
  | c :: p, 0, _ => by simp
  | c :: p, k + 1, h => by
    have ih := tw_spec p k (by simpa using h)
    by_cases hc : c = 42
    · subst hc
      simp only [List.takeWhile_cons, beq_self_eq_true, if_true, List.length_cons, Nat.add_le_add_iff_right, ih]
      constructor
      · intro g i hi
        cases i with
        | zero => rfl
        | succ i => simpa using g i (by omega)
      · intro g i hi
        simpa using g (i + 1) (by omega)
    · have hc' : (c == 42) = false := by simpa using hc
      simp only [List.takeWhile_cons, hc', Bool.false_eq_true, if_false, List.length_nil]
      constructor
      · intro g; omega
      · intro g
        exact absurd (g 0 (by omega)) (by simpa using hc)
theorem atI_chr {p : List Nat} {i : Nat} (h : i < p.length) : L2.atI p (i : Int) = some (p.getD i 0) := by
  refine L2.atI_nat ?_
  rw [List.getElem?_eq_getElem h, List.getD_eq_getElem?_getD, List.getElem?_eq_getElem h]
  rfl
theorem lm_turn {p t : List Nat} {ps rs : List Int} {k j : Nat} {s2 : SV} (h2 : s2 = .d (.lst (dI ps)) ∨ s2 = .own false (.lst (dI ps))) (hp : p.length ≤ 1000) (ht : t.length ≤ 20000) (hk : k < p.length) (hj : j ≤ t.length) (hr : rs.length ≤ 20001) (hps : ∀ j : Nat, j ≤ t.length → ((j : Int) ∈ ps ↔ Mb p t k j = true)) (hpn : (-1 : Int) ∉ ps)
    (hrs : ∀ z : Int, z ∈ rs ↔ ∃ i : Nat, z = i ∧ i < j ∧ Mb p t (k + 1) i = true) :
    l_ulawumatches_1 [.d (.str p), .d (.str t), s2, .d (.int k), .own false (.lst (dI rs)), .d (.int j)] =
      some (.nx [.d (.str p), .d (.str t), s2, .d (.int k), .own false (.lst (dI (if Mb p t (k + 1) j = true then rs ++ [(j : Int)] else rs))), .d (.int j)]) := by
  have hs : (100000 : Nat) ≤ sizeLine := by decide
  have hpl : p.length ≤ sizeLine := by omega
  have htl : t.length ≤ sizeLine := by omega
  have gp := atI_chr hk
  generalize hsg : p.getD k 0 = s at gp
  obtain ⟨v2, hv, hp2⟩ : ∃ v2, varE 2 [.d (.str p), .d (.str t), s2, .d (.int k), .own false (.lst (dI rs)), .d (.int j)] = some (.ok v2 [.d (.str p), .d (.str t), s2, .d (.int k), .own false (.lst (dI rs)), .d (.int j)]) ∧ pk v2 [.d (.str p), .d (.str t), s2, .d (.int k), .own false (.lst (dI rs)), .d (.int j)] = some (.lst (dI ps)) := by
    rcases h2 with rfl | rfl
    · exact ⟨_, ev_var rfl, rfl⟩
    · exact ⟨.cv 2, ev_varO rfl, rfl⟩
  have app : exprS (mutE appU (varE 4) (consA (varE 5) nilA)) [.d (.str p), .d (.str t), s2, .d (.int k), .own false (.lst (dI rs)), .d (.int j)] = some (.nx [.d (.str p), .d (.str t), s2, .d (.int k), .own false (.lst (dI (rs ++ [(j : Int)]))), .d (.int j)]) := by
    have a1 : appU (dI rs) [.int (j : Int)] = some (.non, dI rs ++ [.int (j : Int)]) := Dw.app_ok (by rw [dI, List.length_map]; omega)
    have a2 : dI (rs ++ [(j : Int)]) = dI rs ++ [.int (j : Int)] := by rw [dI, dI, List.map_append]; rfl
    rw [a2]
    repeat' (first | with_reducible exact a1 | with_reducible exact Dw.ty_str | with_reducible exact Dw.ty_lst | with_reducible exact Dw.lst_eq | with_reducible exact Dw.set_z | with_reducible exact Dw.ret_d | with_reducible exact Dw.ret_own | with_reducible exact Dw.mapd_nn | with_reducible exact Dw.ev_const | with_reducible exact Dw.ev_nil | with_reducible exact Dw.pk_d | with_reducible exact Dw.pk_own | with_reducible exact Dw.pks_nil | with_reducible exact Dw.frz_d | with_reducible exact Dw.frz_own | with_reducible exact Dw.frzs_nil | with_reducible exact Dw.tru_bl | with_reducible exact Dw.ev_skip | with_reducible exact Dw.len_lst | with_reducible exact Dw.len_tup | with_reducible exact Dw.eq_int | with_reducible exact Dw.ne_int | with_reducible exact Dw.eq_str | with_reducible exact Dw.ne_str | with_reducible exact Dw.eq_bl | with_reducible exact Dw.ne_bl | with_reducible exact Dw.lt_int' | with_reducible exact Dw.lt_str' | with_reducible exact Dw.le_int' | with_reducible exact Dw.gt_int' | with_reducible exact Dw.ge_int' | with_reducible exact Dw.add_int' | with_reducible exact Dw.sub_int' | with_reducible exact Dw.neg_int' | with_reducible exact Dw.ord_str | with_reducible exact Dw.int_int | with_reducible exact Dw.int_bl | with_reducible exact Dw.list_lst | with_reducible exact Dw.list_tup | with_reducible exact Dw.tup_lst | with_reducible exact Dw.tup_tup | with_reducible exact Dw.it_lst | with_reducible exact Dw.it_tup | with_reducible exact Dw.it_str | ((with_reducible apply Dw.ev_var); exact rfl) | ((with_reducible apply Dw.ev_varO); exact rfl) | ((with_reducible apply Dw.pk_cv); exact rfl) | ((with_reducible apply Dw.fs_ok); exact rfl) | ((with_reducible apply Dw.gE); exact rfl) | with_reducible apply Dw.ev_two | with_reducible apply Dw.ev_one | with_reducible apply Dw.ev_cons | with_reducible apply Dw.pks_cons | with_reducible apply Dw.ev_callE | with_reducible apply Dw.ev_isi | with_reducible apply Dw.frzs_cons | with_reducible apply Dw.ev_tup | with_reducible apply Dw.ev_lst | with_reducible apply Dw.ev_not | with_reducible apply Dw.ev_met | with_reducible apply Dw.ev_mut | with_reducible apply Dw.ev_ret | with_reducible apply Dw.ev_expr | with_reducible apply Dw.ev_asg | with_reducible apply Dw.ev_args | with_reducible apply Dw.ev_src | with_reducible apply Dw.ev_callD | with_reducible apply Dw.mapd_c | with_reducible apply Dw.mapd_d | with_reducible apply Dw.set_s | with_reducible apply Dw.st_d | with_reducible apply Dw.st_own | with_reducible apply Dw.st_cv | with_reducible apply Dw.frz_cv | ((with_reducible apply Dw.len_str); assumption) | ((with_reducible apply Dw.get_str) <;> assumption) | with_reducible assumption | ((with_reducible show Dw.okI _ = true); exact rfl))
  have fin : ∀ b : Bool, b = Mb p t (k + 1) j → ∀ c : SE, c [.d (.str p), .d (.str t), s2, .d (.int k), .own false (.lst (dI rs)), .d (.int j)] = some (.ok (.d (.bl b)) [.d (.str p), .d (.str t), s2, .d (.int k), .own false (.lst (dI rs)), .d (.int j)]) →
      iteS c (exprS (mutE appU (varE 4) (consA (varE 5) nilA))) skipS [.d (.str p), .d (.str t), s2, .d (.int k), .own false (.lst (dI rs)), .d (.int j)] = some (.nx [.d (.str p), .d (.str t), s2, .d (.int k), .own false (.lst (dI (if Mb p t (k + 1) j = true then rs ++ [(j : Int)] else rs))), .d (.int j)]) := by
    intro b hb c hc
    rw [← hb]
    cases b with
    | true => exact ev_iteT hc rfl app
    | false => exact ev_iteF hc rfl ev_skip
  have c1 : two (op2 eqD) (two (op2 getD) (varE 0) (varE 3)) (constE (.str [42])) [.d (.str p), .d (.str t), s2, .d (.int k), .own false (.lst (dI rs)), .d (.int j)] = some (.ok (.d (.bl ([s] == [42]))) [.d (.str p), .d (.str t), s2, .d (.int k), .own false (.lst (dI rs)), .d (.int j)]) := by
    repeat' (first  | with_reducible exact Dw.ty_str | with_reducible exact Dw.ty_lst | with_reducible exact Dw.lst_eq | with_reducible exact Dw.set_z | with_reducible exact Dw.ret_d | with_reducible exact Dw.ret_own | with_reducible exact Dw.mapd_nn | with_reducible exact Dw.ev_const | with_reducible exact Dw.ev_nil | with_reducible exact Dw.pk_d | with_reducible exact Dw.pk_own | with_reducible exact Dw.pks_nil | with_reducible exact Dw.frz_d | with_reducible exact Dw.frz_own | with_reducible exact Dw.frzs_nil | with_reducible exact Dw.tru_bl | with_reducible exact Dw.ev_skip | with_reducible exact Dw.len_lst | with_reducible exact Dw.len_tup | with_reducible exact Dw.eq_int | with_reducible exact Dw.ne_int | with_reducible exact Dw.eq_str | with_reducible exact Dw.ne_str | with_reducible exact Dw.eq_bl | with_reducible exact Dw.ne_bl | with_reducible exact Dw.lt_int' | with_reducible exact Dw.lt_str' | with_reducible exact Dw.le_int' | with_reducible exact Dw.gt_int' | with_reducible exact Dw.ge_int' | with_reducible exact Dw.add_int' | with_reducible exact Dw.sub_int' | with_reducible exact Dw.neg_int' | with_reducible exact Dw.ord_str | with_reducible exact Dw.int_int | with_reducible exact Dw.int_bl | with_reducible exact Dw.list_lst | with_reducible exact Dw.list_tup | with_reducible exact Dw.tup_lst | with_reducible exact Dw.tup_tup | with_reducible exact Dw.it_lst | with_reducible exact Dw.it_tup | with_reducible exact Dw.it_str | ((with_reducible apply Dw.ev_var); exact rfl) | ((with_reducible apply Dw.ev_varO); exact rfl) | ((with_reducible apply Dw.pk_cv); exact rfl) | ((with_reducible apply Dw.fs_ok); exact rfl) | ((with_reducible apply Dw.gE); exact rfl) | with_reducible apply Dw.ev_two | with_reducible apply Dw.ev_one | with_reducible apply Dw.ev_cons | with_reducible apply Dw.pks_cons | with_reducible apply Dw.ev_callE | with_reducible apply Dw.ev_isi | with_reducible apply Dw.frzs_cons | with_reducible apply Dw.ev_tup | with_reducible apply Dw.ev_lst | with_reducible apply Dw.ev_not | with_reducible apply Dw.ev_met | with_reducible apply Dw.ev_mut | with_reducible apply Dw.ev_ret | with_reducible apply Dw.ev_expr | with_reducible apply Dw.ev_asg | with_reducible apply Dw.ev_args | with_reducible apply Dw.ev_src | with_reducible apply Dw.ev_callD | with_reducible apply Dw.mapd_c | with_reducible apply Dw.mapd_d | with_reducible apply Dw.set_s | with_reducible apply Dw.st_d | with_reducible apply Dw.st_own | with_reducible apply Dw.st_cv | with_reducible apply Dw.frz_cv | ((with_reducible apply Dw.len_str); assumption) | ((with_reducible apply Dw.get_str) <;> assumption) | with_reducible assumption | ((with_reducible show Dw.okI _ = true); exact rfl))
  rw [one_eq] at c1
  have m1 : decide ((j : Int) ∈ ps) = Mb p t k j := by rw [Bool.eq_iff_iff, decide_eq_true_eq]; exact hps j hj
  unfold l_ulawumatches_1
  cases hb : s == 42 with
  | true =>
    rw [hb] at c1
    refine ev_iteT c1 rfl (fin (decide ((j : Int) ∈ ps) || decide ((j : Int) - 1 ∈ rs)) ?_ _ (ev_orB (by repeat' (first | with_reducible exact hv | with_reducible exact hp2 | with_reducible exact in_lstI | with_reducible exact Dw.ty_str | with_reducible exact Dw.ty_lst | with_reducible exact Dw.lst_eq | with_reducible exact Dw.set_z | with_reducible exact Dw.ret_d | with_reducible exact Dw.ret_own | with_reducible exact Dw.mapd_nn | with_reducible exact Dw.ev_const | with_reducible exact Dw.ev_nil | with_reducible exact Dw.pk_d | with_reducible exact Dw.pk_own | with_reducible exact Dw.pks_nil | with_reducible exact Dw.frz_d | with_reducible exact Dw.frz_own | with_reducible exact Dw.frzs_nil | with_reducible exact Dw.tru_bl | with_reducible exact Dw.ev_skip | with_reducible exact Dw.len_lst | with_reducible exact Dw.len_tup | with_reducible exact Dw.eq_int | with_reducible exact Dw.ne_int | with_reducible exact Dw.eq_str | with_reducible exact Dw.ne_str | with_reducible exact Dw.eq_bl | with_reducible exact Dw.ne_bl | with_reducible exact Dw.lt_int' | with_reducible exact Dw.lt_str' | with_reducible exact Dw.le_int' | with_reducible exact Dw.gt_int' | with_reducible exact Dw.ge_int' | with_reducible exact Dw.add_int' | with_reducible exact Dw.sub_int' | with_reducible exact Dw.neg_int' | with_reducible exact Dw.ord_str | with_reducible exact Dw.int_int | with_reducible exact Dw.int_bl | with_reducible exact Dw.list_lst | with_reducible exact Dw.list_tup | with_reducible exact Dw.tup_lst | with_reducible exact Dw.tup_tup | with_reducible exact Dw.it_lst | with_reducible exact Dw.it_tup | with_reducible exact Dw.it_str | ((with_reducible apply Dw.ev_var); exact rfl) | ((with_reducible apply Dw.ev_varO); exact rfl) | ((with_reducible apply Dw.pk_cv); exact rfl) | ((with_reducible apply Dw.fs_ok); exact rfl) | ((with_reducible apply Dw.gE); exact rfl) | with_reducible apply Dw.ev_two | with_reducible apply Dw.ev_one | with_reducible apply Dw.ev_cons | with_reducible apply Dw.pks_cons | with_reducible apply Dw.ev_callE | with_reducible apply Dw.ev_isi | with_reducible apply Dw.frzs_cons | with_reducible apply Dw.ev_tup | with_reducible apply Dw.ev_lst | with_reducible apply Dw.ev_not | with_reducible apply Dw.ev_met | with_reducible apply Dw.ev_mut | with_reducible apply Dw.ev_ret | with_reducible apply Dw.ev_expr | with_reducible apply Dw.ev_asg | with_reducible apply Dw.ev_args | with_reducible apply Dw.ev_src | with_reducible apply Dw.ev_callD | with_reducible apply Dw.mapd_c | with_reducible apply Dw.mapd_d | with_reducible apply Dw.set_s | with_reducible apply Dw.st_d | with_reducible apply Dw.st_own | with_reducible apply Dw.st_cv | with_reducible apply Dw.frz_cv | ((with_reducible apply Dw.len_str); assumption) | ((with_reducible apply Dw.get_str) <;> assumption) | with_reducible assumption | ((with_reducible show Dw.okI _ = true); exact rfl))) (by repeat' (first | with_reducible exact in_lstI | with_reducible exact Dw.ty_str | with_reducible exact Dw.ty_lst | with_reducible exact Dw.lst_eq | with_reducible exact Dw.set_z | with_reducible exact Dw.ret_d | with_reducible exact Dw.ret_own | with_reducible exact Dw.mapd_nn | with_reducible exact Dw.ev_const | with_reducible exact Dw.ev_nil | with_reducible exact Dw.pk_d | with_reducible exact Dw.pk_own | with_reducible exact Dw.pks_nil | with_reducible exact Dw.frz_d | with_reducible exact Dw.frz_own | with_reducible exact Dw.frzs_nil | with_reducible exact Dw.tru_bl | with_reducible exact Dw.ev_skip | with_reducible exact Dw.len_lst | with_reducible exact Dw.len_tup | with_reducible exact Dw.eq_int | with_reducible exact Dw.ne_int | with_reducible exact Dw.eq_str | with_reducible exact Dw.ne_str | with_reducible exact Dw.eq_bl | with_reducible exact Dw.ne_bl | with_reducible exact Dw.lt_int' | with_reducible exact Dw.lt_str' | with_reducible exact Dw.le_int' | with_reducible exact Dw.gt_int' | with_reducible exact Dw.ge_int' | with_reducible exact Dw.add_int' | with_reducible exact Dw.sub_int' | with_reducible exact Dw.neg_int' | with_reducible exact Dw.ord_str | with_reducible exact Dw.int_int | with_reducible exact Dw.int_bl | with_reducible exact Dw.list_lst | with_reducible exact Dw.list_tup | with_reducible exact Dw.tup_lst | with_reducible exact Dw.tup_tup | with_reducible exact Dw.it_lst | with_reducible exact Dw.it_tup | with_reducible exact Dw.it_str | ((with_reducible apply Dw.ev_var); exact rfl) | ((with_reducible apply Dw.ev_varO); exact rfl) | ((with_reducible apply Dw.pk_cv); exact rfl) | ((with_reducible apply Dw.fs_ok); exact rfl) | ((with_reducible apply Dw.gE); exact rfl) | with_reducible apply Dw.ev_two | with_reducible apply Dw.ev_one | with_reducible apply Dw.ev_cons | with_reducible apply Dw.pks_cons | with_reducible apply Dw.ev_callE | with_reducible apply Dw.ev_isi | with_reducible apply Dw.frzs_cons | with_reducible apply Dw.ev_tup | with_reducible apply Dw.ev_lst | with_reducible apply Dw.ev_not | with_reducible apply Dw.ev_met | with_reducible apply Dw.ev_mut | with_reducible apply Dw.ev_ret | with_reducible apply Dw.ev_expr | with_reducible apply Dw.ev_asg | with_reducible apply Dw.ev_args | with_reducible apply Dw.ev_src | with_reducible apply Dw.ev_callD | with_reducible apply Dw.mapd_c | with_reducible apply Dw.mapd_d | with_reducible apply Dw.set_s | with_reducible apply Dw.st_d | with_reducible apply Dw.st_own | with_reducible apply Dw.st_cv | with_reducible apply Dw.frz_cv | ((with_reducible apply Dw.len_str); assumption) | ((with_reducible apply Dw.get_str) <;> assumption) | with_reducible assumption | ((with_reducible show Dw.okI _ = true); exact rfl)))))
    rw [m1]
    cases j with
    | zero =>
      have : decide (((0 : Nat) : Int) - 1 ∈ rs) = false := by
        rw [decide_eq_false_iff_not, hrs]
        rintro ⟨i, h, _⟩
        omega
      rw [this, Mb, hsg, hb, Bool.true_and, Bool.or_false]
    | succ j =>
      have : decide (((j + 1 : Nat) : Int) - 1 ∈ rs) = Mb p t (k + 1) j := by
        rw [Bool.eq_iff_iff, decide_eq_true_eq, hrs]
        constructor
        · rintro ⟨i, h, _, h2⟩
          have : i = j := by omega
          rw [← this]; exact h2
        · intro h
          exact ⟨j, by omega, by omega, h⟩
      rw [this, Mb, hsg, hb, if_pos rfl]
  | false =>
    rw [hb] at c1
    refine ev_iteF c1 rfl ?_
    cases j with
    | zero =>
      refine fin false ?_ _ (ev_andF (a := .d (.bl (decide ((0 : Int) < ((0 : Nat) : Int))))) (by repeat' (first  | with_reducible exact Dw.ty_str | with_reducible exact Dw.ty_lst | with_reducible exact Dw.lst_eq | with_reducible exact Dw.set_z | with_reducible exact Dw.ret_d | with_reducible exact Dw.ret_own | with_reducible exact Dw.mapd_nn | with_reducible exact Dw.ev_const | with_reducible exact Dw.ev_nil | with_reducible exact Dw.pk_d | with_reducible exact Dw.pk_own | with_reducible exact Dw.pks_nil | with_reducible exact Dw.frz_d | with_reducible exact Dw.frz_own | with_reducible exact Dw.frzs_nil | with_reducible exact Dw.tru_bl | with_reducible exact Dw.ev_skip | with_reducible exact Dw.len_lst | with_reducible exact Dw.len_tup | with_reducible exact Dw.eq_int | with_reducible exact Dw.ne_int | with_reducible exact Dw.eq_str | with_reducible exact Dw.ne_str | with_reducible exact Dw.eq_bl | with_reducible exact Dw.ne_bl | with_reducible exact Dw.lt_int' | with_reducible exact Dw.lt_str' | with_reducible exact Dw.le_int' | with_reducible exact Dw.gt_int' | with_reducible exact Dw.ge_int' | with_reducible exact Dw.add_int' | with_reducible exact Dw.sub_int' | with_reducible exact Dw.neg_int' | with_reducible exact Dw.ord_str | with_reducible exact Dw.int_int | with_reducible exact Dw.int_bl | with_reducible exact Dw.list_lst | with_reducible exact Dw.list_tup | with_reducible exact Dw.tup_lst | with_reducible exact Dw.tup_tup | with_reducible exact Dw.it_lst | with_reducible exact Dw.it_tup | with_reducible exact Dw.it_str | ((with_reducible apply Dw.ev_var); exact rfl) | ((with_reducible apply Dw.ev_varO); exact rfl) | ((with_reducible apply Dw.pk_cv); exact rfl) | ((with_reducible apply Dw.fs_ok); exact rfl) | ((with_reducible apply Dw.gE); exact rfl) | with_reducible apply Dw.ev_two | with_reducible apply Dw.ev_one | with_reducible apply Dw.ev_cons | with_reducible apply Dw.pks_cons | with_reducible apply Dw.ev_callE | with_reducible apply Dw.ev_isi | with_reducible apply Dw.frzs_cons | with_reducible apply Dw.ev_tup | with_reducible apply Dw.ev_lst | with_reducible apply Dw.ev_not | with_reducible apply Dw.ev_met | with_reducible apply Dw.ev_mut | with_reducible apply Dw.ev_ret | with_reducible apply Dw.ev_expr | with_reducible apply Dw.ev_asg | with_reducible apply Dw.ev_args | with_reducible apply Dw.ev_src | with_reducible apply Dw.ev_callD | with_reducible apply Dw.mapd_c | with_reducible apply Dw.mapd_d | with_reducible apply Dw.set_s | with_reducible apply Dw.st_d | with_reducible apply Dw.st_own | with_reducible apply Dw.st_cv | with_reducible apply Dw.frz_cv | ((with_reducible apply Dw.len_str); assumption) | ((with_reducible apply Dw.get_str) <;> assumption) | with_reducible assumption | ((with_reducible show Dw.okI _ = true); exact rfl))) rfl)
      rw [Mb, hsg, hb, Bool.false_and]
    | succ j =>
      have hj2 : j < t.length := by omega
      have gt := atI_chr hj2
      have ej : ((j + 1 : Nat) : Int) - 1 = (j : Int) := by omega
      have m2 : decide (((j + 1 : Nat) : Int) - 1 ∈ ps) = Mb p t k j := by rw [ej, Bool.eq_iff_iff, decide_eq_true_eq]; exact hps j (by omega)
      have g2 : getD (.str t) (.int (((j + 1 : Nat) : Int) - 1)) = some (.d (.str [t.getD j 0])) := by rw [ej]; exact Dw.get_str htl gt
      refine fin (decide ((0 : Int) < ((j + 1 : Nat) : Int)) && (decide (((j + 1 : Nat) : Int) - 1 ∈ ps) && ([s] == [63] || [s] == [t.getD j 0]))) ?_ _ (ev_andB (by repeat' (first  | with_reducible exact Dw.ty_str | with_reducible exact Dw.ty_lst | with_reducible exact Dw.lst_eq | with_reducible exact Dw.set_z | with_reducible exact Dw.ret_d | with_reducible exact Dw.ret_own | with_reducible exact Dw.mapd_nn | with_reducible exact Dw.ev_const | with_reducible exact Dw.ev_nil | with_reducible exact Dw.pk_d | with_reducible exact Dw.pk_own | with_reducible exact Dw.pks_nil | with_reducible exact Dw.frz_d | with_reducible exact Dw.frz_own | with_reducible exact Dw.frzs_nil | with_reducible exact Dw.tru_bl | with_reducible exact Dw.ev_skip | with_reducible exact Dw.len_lst | with_reducible exact Dw.len_tup | with_reducible exact Dw.eq_int | with_reducible exact Dw.ne_int | with_reducible exact Dw.eq_str | with_reducible exact Dw.ne_str | with_reducible exact Dw.eq_bl | with_reducible exact Dw.ne_bl | with_reducible exact Dw.lt_int' | with_reducible exact Dw.lt_str' | with_reducible exact Dw.le_int' | with_reducible exact Dw.gt_int' | with_reducible exact Dw.ge_int' | with_reducible exact Dw.add_int' | with_reducible exact Dw.sub_int' | with_reducible exact Dw.neg_int' | with_reducible exact Dw.ord_str | with_reducible exact Dw.int_int | with_reducible exact Dw.int_bl | with_reducible exact Dw.list_lst | with_reducible exact Dw.list_tup | with_reducible exact Dw.tup_lst | with_reducible exact Dw.tup_tup | with_reducible exact Dw.it_lst | with_reducible exact Dw.it_tup | with_reducible exact Dw.it_str | ((with_reducible apply Dw.ev_var); exact rfl) | ((with_reducible apply Dw.ev_varO); exact rfl) | ((with_reducible apply Dw.pk_cv); exact rfl) | ((with_reducible apply Dw.fs_ok); exact rfl) | ((with_reducible apply Dw.gE); exact rfl) | with_reducible apply Dw.ev_two | with_reducible apply Dw.ev_one | with_reducible apply Dw.ev_cons | with_reducible apply Dw.pks_cons | with_reducible apply Dw.ev_callE | with_reducible apply Dw.ev_isi | with_reducible apply Dw.frzs_cons | with_reducible apply Dw.ev_tup | with_reducible apply Dw.ev_lst | with_reducible apply Dw.ev_not | with_reducible apply Dw.ev_met | with_reducible apply Dw.ev_mut | with_reducible apply Dw.ev_ret | with_reducible apply Dw.ev_expr | with_reducible apply Dw.ev_asg | with_reducible apply Dw.ev_args | with_reducible apply Dw.ev_src | with_reducible apply Dw.ev_callD | with_reducible apply Dw.mapd_c | with_reducible apply Dw.mapd_d | with_reducible apply Dw.set_s | with_reducible apply Dw.st_d | with_reducible apply Dw.st_own | with_reducible apply Dw.st_cv | with_reducible apply Dw.frz_cv | ((with_reducible apply Dw.len_str); assumption) | ((with_reducible apply Dw.get_str) <;> assumption) | with_reducible assumption | ((with_reducible show Dw.okI _ = true); exact rfl))) (ev_andB (by repeat' (first | with_reducible exact hv | with_reducible exact hp2 | with_reducible exact in_lstI | with_reducible exact Dw.ty_str | with_reducible exact Dw.ty_lst | with_reducible exact Dw.lst_eq | with_reducible exact Dw.set_z | with_reducible exact Dw.ret_d | with_reducible exact Dw.ret_own | with_reducible exact Dw.mapd_nn | with_reducible exact Dw.ev_const | with_reducible exact Dw.ev_nil | with_reducible exact Dw.pk_d | with_reducible exact Dw.pk_own | with_reducible exact Dw.pks_nil | with_reducible exact Dw.frz_d | with_reducible exact Dw.frz_own | with_reducible exact Dw.frzs_nil | with_reducible exact Dw.tru_bl | with_reducible exact Dw.ev_skip | with_reducible exact Dw.len_lst | with_reducible exact Dw.len_tup | with_reducible exact Dw.eq_int | with_reducible exact Dw.ne_int | with_reducible exact Dw.eq_str | with_reducible exact Dw.ne_str | with_reducible exact Dw.eq_bl | with_reducible exact Dw.ne_bl | with_reducible exact Dw.lt_int' | with_reducible exact Dw.lt_str' | with_reducible exact Dw.le_int' | with_reducible exact Dw.gt_int' | with_reducible exact Dw.ge_int' | with_reducible exact Dw.add_int' | with_reducible exact Dw.sub_int' | with_reducible exact Dw.neg_int' | with_reducible exact Dw.ord_str | with_reducible exact Dw.int_int | with_reducible exact Dw.int_bl | with_reducible exact Dw.list_lst | with_reducible exact Dw.list_tup | with_reducible exact Dw.tup_lst | with_reducible exact Dw.tup_tup | with_reducible exact Dw.it_lst | with_reducible exact Dw.it_tup | with_reducible exact Dw.it_str | ((with_reducible apply Dw.ev_var); exact rfl) | ((with_reducible apply Dw.ev_varO); exact rfl) | ((with_reducible apply Dw.pk_cv); exact rfl) | ((with_reducible apply Dw.fs_ok); exact rfl) | ((with_reducible apply Dw.gE); exact rfl) | with_reducible apply Dw.ev_two | with_reducible apply Dw.ev_one | with_reducible apply Dw.ev_cons | with_reducible apply Dw.pks_cons | with_reducible apply Dw.ev_callE | with_reducible apply Dw.ev_isi | with_reducible apply Dw.frzs_cons | with_reducible apply Dw.ev_tup | with_reducible apply Dw.ev_lst | with_reducible apply Dw.ev_not | with_reducible apply Dw.ev_met | with_reducible apply Dw.ev_mut | with_reducible apply Dw.ev_ret | with_reducible apply Dw.ev_expr | with_reducible apply Dw.ev_asg | with_reducible apply Dw.ev_args | with_reducible apply Dw.ev_src | with_reducible apply Dw.ev_callD | with_reducible apply Dw.mapd_c | with_reducible apply Dw.mapd_d | with_reducible apply Dw.set_s | with_reducible apply Dw.st_d | with_reducible apply Dw.st_own | with_reducible apply Dw.st_cv | with_reducible apply Dw.frz_cv | ((with_reducible apply Dw.len_str); assumption) | ((with_reducible apply Dw.get_str) <;> assumption) | with_reducible assumption | ((with_reducible show Dw.okI _ = true); exact rfl))) (ev_orB (by repeat' (first  | with_reducible exact Dw.ty_str | with_reducible exact Dw.ty_lst | with_reducible exact Dw.lst_eq | with_reducible exact Dw.set_z | with_reducible exact Dw.ret_d | with_reducible exact Dw.ret_own | with_reducible exact Dw.mapd_nn | with_reducible exact Dw.ev_const | with_reducible exact Dw.ev_nil | with_reducible exact Dw.pk_d | with_reducible exact Dw.pk_own | with_reducible exact Dw.pks_nil | with_reducible exact Dw.frz_d | with_reducible exact Dw.frz_own | with_reducible exact Dw.frzs_nil | with_reducible exact Dw.tru_bl | with_reducible exact Dw.ev_skip | with_reducible exact Dw.len_lst | with_reducible exact Dw.len_tup | with_reducible exact Dw.eq_int | with_reducible exact Dw.ne_int | with_reducible exact Dw.eq_str | with_reducible exact Dw.ne_str | with_reducible exact Dw.eq_bl | with_reducible exact Dw.ne_bl | with_reducible exact Dw.lt_int' | with_reducible exact Dw.lt_str' | with_reducible exact Dw.le_int' | with_reducible exact Dw.gt_int' | with_reducible exact Dw.ge_int' | with_reducible exact Dw.add_int' | with_reducible exact Dw.sub_int' | with_reducible exact Dw.neg_int' | with_reducible exact Dw.ord_str | with_reducible exact Dw.int_int | with_reducible exact Dw.int_bl | with_reducible exact Dw.list_lst | with_reducible exact Dw.list_tup | with_reducible exact Dw.tup_lst | with_reducible exact Dw.tup_tup | with_reducible exact Dw.it_lst | with_reducible exact Dw.it_tup | with_reducible exact Dw.it_str | ((with_reducible apply Dw.ev_var); exact rfl) | ((with_reducible apply Dw.ev_varO); exact rfl) | ((with_reducible apply Dw.pk_cv); exact rfl) | ((with_reducible apply Dw.fs_ok); exact rfl) | ((with_reducible apply Dw.gE); exact rfl) | with_reducible apply Dw.ev_two | with_reducible apply Dw.ev_one | with_reducible apply Dw.ev_cons | with_reducible apply Dw.pks_cons | with_reducible apply Dw.ev_callE | with_reducible apply Dw.ev_isi | with_reducible apply Dw.frzs_cons | with_reducible apply Dw.ev_tup | with_reducible apply Dw.ev_lst | with_reducible apply Dw.ev_not | with_reducible apply Dw.ev_met | with_reducible apply Dw.ev_mut | with_reducible apply Dw.ev_ret | with_reducible apply Dw.ev_expr | with_reducible apply Dw.ev_asg | with_reducible apply Dw.ev_args | with_reducible apply Dw.ev_src | with_reducible apply Dw.ev_callD | with_reducible apply Dw.mapd_c | with_reducible apply Dw.mapd_d | with_reducible apply Dw.set_s | with_reducible apply Dw.st_d | with_reducible apply Dw.st_own | with_reducible apply Dw.st_cv | with_reducible apply Dw.frz_cv | ((with_reducible apply Dw.len_str); assumption) | ((with_reducible apply Dw.get_str) <;> assumption) | with_reducible assumption | ((with_reducible show Dw.okI _ = true); exact rfl))) (by repeat' (first | with_reducible exact g2 | with_reducible exact Dw.ty_str | with_reducible exact Dw.ty_lst | with_reducible exact Dw.lst_eq | with_reducible exact Dw.set_z | with_reducible exact Dw.ret_d | with_reducible exact Dw.ret_own | with_reducible exact Dw.mapd_nn | with_reducible exact Dw.ev_const | with_reducible exact Dw.ev_nil | with_reducible exact Dw.pk_d | with_reducible exact Dw.pk_own | with_reducible exact Dw.pks_nil | with_reducible exact Dw.frz_d | with_reducible exact Dw.frz_own | with_reducible exact Dw.frzs_nil | with_reducible exact Dw.tru_bl | with_reducible exact Dw.ev_skip | with_reducible exact Dw.len_lst | with_reducible exact Dw.len_tup | with_reducible exact Dw.eq_int | with_reducible exact Dw.ne_int | with_reducible exact Dw.eq_str | with_reducible exact Dw.ne_str | with_reducible exact Dw.eq_bl | with_reducible exact Dw.ne_bl | with_reducible exact Dw.lt_int' | with_reducible exact Dw.lt_str' | with_reducible exact Dw.le_int' | with_reducible exact Dw.gt_int' | with_reducible exact Dw.ge_int' | with_reducible exact Dw.add_int' | with_reducible exact Dw.sub_int' | with_reducible exact Dw.neg_int' | with_reducible exact Dw.ord_str | with_reducible exact Dw.int_int | with_reducible exact Dw.int_bl | with_reducible exact Dw.list_lst | with_reducible exact Dw.list_tup | with_reducible exact Dw.tup_lst | with_reducible exact Dw.tup_tup | with_reducible exact Dw.it_lst | with_reducible exact Dw.it_tup | with_reducible exact Dw.it_str | ((with_reducible apply Dw.ev_var); exact rfl) | ((with_reducible apply Dw.ev_varO); exact rfl) | ((with_reducible apply Dw.pk_cv); exact rfl) | ((with_reducible apply Dw.fs_ok); exact rfl) | ((with_reducible apply Dw.gE); exact rfl) | with_reducible apply Dw.ev_two | with_reducible apply Dw.ev_one | with_reducible apply Dw.ev_cons | with_reducible apply Dw.pks_cons | with_reducible apply Dw.ev_callE | with_reducible apply Dw.ev_isi | with_reducible apply Dw.frzs_cons | with_reducible apply Dw.ev_tup | with_reducible apply Dw.ev_lst | with_reducible apply Dw.ev_not | with_reducible apply Dw.ev_met | with_reducible apply Dw.ev_mut | with_reducible apply Dw.ev_ret | with_reducible apply Dw.ev_expr | with_reducible apply Dw.ev_asg | with_reducible apply Dw.ev_args | with_reducible apply Dw.ev_src | with_reducible apply Dw.ev_callD | with_reducible apply Dw.mapd_c | with_reducible apply Dw.mapd_d | with_reducible apply Dw.set_s | with_reducible apply Dw.st_d | with_reducible apply Dw.st_own | with_reducible apply Dw.st_cv | with_reducible apply Dw.frz_cv | ((with_reducible apply Dw.len_str); assumption) | ((with_reducible apply Dw.get_str) <;> assumption) | with_reducible assumption | ((with_reducible show Dw.okI _ = true); exact rfl))))))
      rw [m2, Mb, hsg, hb, if_neg Bool.false_ne_true, one_eq, one_eq, show decide ((0 : Int) < ((j + 1 : Nat) : Int)) = true from decide_eq_true (by omega), Bool.true_and]
theorem lm_inner {p t : List Nat} {ps : List Int} {k : Nat} {s2 : SV} (h2 : s2 = .d (.lst (dI ps)) ∨ s2 = .own false (.lst (dI ps))) (hp : p.length ≤ 1000) (ht : t.length ≤ 20000) (hk : k < p.length) (hps : ∀ j : Nat, j ≤ t.length → ((j : Int) ∈ ps ↔ Mb p t k j = true)) (hpn : (-1 : Int) ∉ ps) (m : Nat) :
    ∀ (j : Nat) (rs : List Int) (w : SV), j + m = t.length + 1 → flat w = true → rs.length ≤ j → (∀ z : Int, z ∈ rs ↔ ∃ i : Nat, z = i ∧ i < j ∧ Mb p t (k + 1) i = true) →
    ∃ rs' w', (∀ z : Int, z ∈ rs' ↔ ∃ i : Nat, z = i ∧ i < t.length + 1 ∧ Mb p t (k + 1) i = true) ∧ flat w' = true ∧ loopD (.nm 5) l_ulawumatches_1 ((List.range' j m).map fun i => .int (i : Nat)) [.d (.str p), .d (.str t), s2, .d (.int k), .own false (.lst (dI rs)), w] = some (.nx [.d (.str p), .d (.str t), s2, .d (.int k), .own false (.lst (dI rs')), w']) := by
  induction m with
  | zero =>
    intro j rs w e hw _ h
    have : j = t.length + 1 := by omega
    subst this
    exact ⟨rs, w, h, hw, rfl⟩
  | succ m ih =>
    intro j rs w e hw hl h
    have fw : freeSlot (some w) = true := by
      cases w with
      | own b c => simp [flat] at hw
      | xn e => simp [flat] at hw
      | _ => rfl
    have tn := lm_turn (rs := rs) (j := j) h2 hp ht hk (by omega) (by omega) hps hpn h
    generalize hg : (if Mb p t (k + 1) j = true then rs ++ [(j : Int)] else rs) = rs1 at tn
    obtain ⟨rs', w', h3, hfw, h4⟩ := ih (j + 1) rs1 (.d (.int j)) (by omega) rfl (by
      rw [← hg]
      split
      · rw [List.length_append, List.length_singleton]; omega
      · omega) (by
      intro z
      rw [← hg]
      split
      · next hM =>
        rw [List.mem_append, List.mem_singleton, h]
        constructor
        · rintro (⟨i, a, b, c⟩ | rfl)
          · exact ⟨i, a, by omega, c⟩
          · exact ⟨j, rfl, by omega, hM⟩
        · rintro ⟨i, a, b, c⟩
          by_cases hi : i < j
          · exact .inl ⟨i, a, hi, c⟩
          · have : i = j := by omega
            subst this
            exact .inr a
      · next hM =>
        rw [h]
        constructor
        · rintro ⟨i, a, b, c⟩; exact ⟨i, a, by omega, c⟩
        · rintro ⟨i, a, b, c⟩
          by_cases hi : i < j
          · exact ⟨i, a, hi, c⟩
          · have : i = j := by omega
            subst this
            exact absurd c hM)
    refine ⟨rs', w', h3, hfw, ?_⟩
    rw [List.range'_succ, List.map_cons, loopD]
    simp only [putT, setSlot, List.getElem?_cons_succ, List.getElem?_cons_zero, fw, if_true, Option.bind_some, List.set_cons_succ, List.set_cons_zero]
    rw [tn]
    exact h4
theorem lm_outer_turn {p t : List Nat} {ps : List Int} {k : Nat} {s2 w4 w5 : SV} (h2 : s2 = .d (.lst (dI ps)) ∨ s2 = .own false (.lst (dI ps))) (f4 : flat w4 = true ∨ ∃ xs, w4 = .own false (.lst xs)) (f5 : flat w5 = true) (hp : p.length ≤ 1000) (ht : t.length ≤ 20000) (hk : k < p.length) (hps : ∀ j : Nat, j ≤ t.length → ((j : Int) ∈ ps ↔ Mb p t k j = true)) (hpn : (-1 : Int) ∉ ps) :
    ∃ rs w', (∀ z : Int, z ∈ rs ↔ ∃ i : Nat, z = i ∧ i < t.length + 1 ∧ Mb p t (k + 1) i = true) ∧ flat w' = true ∧ l_ulawumatches_2 [.d (.str p), .d (.str t), s2, .d (.int k), w4, w5] = some (.nx [.d (.str p), .d (.str t), .d (.lst (dI rs)), .d (.int k), .d (.lst (dI rs)), w']) := by
  have hs : (100000 : Nat) ≤ sizeLine := by decide
  have htl : t.length ≤ sizeLine := by omega
  have fr : freeSlot (some w4) = true := by
    rcases f4 with f4 | ⟨xs, rfl⟩
    · cases w4 with
      | own b c => simp [flat] at f4
      | _ => rfl
    · rfl
  have fr2 : freeSlot (some s2) = true := by rcases h2 with rfl | rfl <;> rfl
  obtain ⟨rs, w', h3, hfw, h4⟩ := lm_inner h2 hp ht hk hps hpn (t.length + 1) 0 [] w5 (by omega) f5 (Nat.le_refl _) (by
    intro z
    constructor
    · intro h; cases h
    · rintro ⟨i, _, h, _⟩; omega)
  rw [← List.range_eq_range'] at h4
  refine ⟨rs, w', h3, hfw, ?_⟩
  unfold l_ulawumatches_2
  refine ev_seq2 (env1 := [.d (.str p), .d (.str t), s2, .d (.int k), .own false (.lst []), w5]) (ev_asg (a := .own (.lst [])) (by repeat' (first | exact Nat.zero_le _ | with_reducible exact Dw.ty_str | with_reducible exact Dw.ty_lst | with_reducible exact Dw.lst_eq | with_reducible exact Dw.set_z | with_reducible exact Dw.ret_d | with_reducible exact Dw.ret_own | with_reducible exact Dw.mapd_nn | with_reducible exact Dw.ev_const | with_reducible exact Dw.ev_nil | with_reducible exact Dw.pk_d | with_reducible exact Dw.pk_own | with_reducible exact Dw.pks_nil | with_reducible exact Dw.frz_d | with_reducible exact Dw.frz_own | with_reducible exact Dw.frzs_nil | with_reducible exact Dw.tru_bl | with_reducible exact Dw.ev_skip | with_reducible exact Dw.len_lst | with_reducible exact Dw.len_tup | with_reducible exact Dw.eq_int | with_reducible exact Dw.ne_int | with_reducible exact Dw.eq_str | with_reducible exact Dw.ne_str | with_reducible exact Dw.eq_bl | with_reducible exact Dw.ne_bl | with_reducible exact Dw.lt_int' | with_reducible exact Dw.lt_str' | with_reducible exact Dw.le_int' | with_reducible exact Dw.gt_int' | with_reducible exact Dw.ge_int' | with_reducible exact Dw.add_int' | with_reducible exact Dw.sub_int' | with_reducible exact Dw.neg_int' | with_reducible exact Dw.ord_str | with_reducible exact Dw.int_int | with_reducible exact Dw.int_bl | with_reducible exact Dw.list_lst | with_reducible exact Dw.list_tup | with_reducible exact Dw.tup_lst | with_reducible exact Dw.tup_tup | with_reducible exact Dw.it_lst | with_reducible exact Dw.it_tup | with_reducible exact Dw.it_str | ((with_reducible apply Dw.ev_var); exact rfl) | ((with_reducible apply Dw.ev_varO); exact rfl) | ((with_reducible apply Dw.pk_cv); exact rfl) | ((with_reducible apply Dw.fs_ok); exact rfl) | ((with_reducible apply Dw.gE); exact rfl) | with_reducible apply Dw.ev_two | with_reducible apply Dw.ev_one | with_reducible apply Dw.ev_cons | with_reducible apply Dw.pks_cons | with_reducible apply Dw.ev_callE | with_reducible apply Dw.ev_isi | with_reducible apply Dw.frzs_cons | with_reducible apply Dw.ev_tup | with_reducible apply Dw.ev_lst | with_reducible apply Dw.ev_not | with_reducible apply Dw.ev_met | with_reducible apply Dw.ev_mut | with_reducible apply Dw.ev_ret | with_reducible apply Dw.ev_expr | with_reducible apply Dw.ev_asg | with_reducible apply Dw.ev_args | with_reducible apply Dw.ev_src | with_reducible apply Dw.ev_callD | with_reducible apply Dw.mapd_c | with_reducible apply Dw.mapd_d | with_reducible apply Dw.set_s | with_reducible apply Dw.st_d | with_reducible apply Dw.st_own | with_reducible apply Dw.st_cv | with_reducible apply Dw.frz_cv | ((with_reducible apply Dw.len_str); assumption) | ((with_reducible apply Dw.get_str) <;> assumption) | with_reducible assumption | ((with_reducible show Dw.okI _ = true); exact rfl))) (by repeat' (first | exact fr | with_reducible exact Dw.ty_str | with_reducible exact Dw.ty_lst | with_reducible exact Dw.lst_eq | with_reducible exact Dw.set_z | with_reducible exact Dw.ret_d | with_reducible exact Dw.ret_own | with_reducible exact Dw.mapd_nn | with_reducible exact Dw.ev_const | with_reducible exact Dw.ev_nil | with_reducible exact Dw.pk_d | with_reducible exact Dw.pk_own | with_reducible exact Dw.pks_nil | with_reducible exact Dw.frz_d | with_reducible exact Dw.frz_own | with_reducible exact Dw.frzs_nil | with_reducible exact Dw.tru_bl | with_reducible exact Dw.ev_skip | with_reducible exact Dw.len_lst | with_reducible exact Dw.len_tup | with_reducible exact Dw.eq_int | with_reducible exact Dw.ne_int | with_reducible exact Dw.eq_str | with_reducible exact Dw.ne_str | with_reducible exact Dw.eq_bl | with_reducible exact Dw.ne_bl | with_reducible exact Dw.lt_int' | with_reducible exact Dw.lt_str' | with_reducible exact Dw.le_int' | with_reducible exact Dw.gt_int' | with_reducible exact Dw.ge_int' | with_reducible exact Dw.add_int' | with_reducible exact Dw.sub_int' | with_reducible exact Dw.neg_int' | with_reducible exact Dw.ord_str | with_reducible exact Dw.int_int | with_reducible exact Dw.int_bl | with_reducible exact Dw.list_lst | with_reducible exact Dw.list_tup | with_reducible exact Dw.tup_lst | with_reducible exact Dw.tup_tup | with_reducible exact Dw.it_lst | with_reducible exact Dw.it_tup | with_reducible exact Dw.it_str | ((with_reducible apply Dw.ev_var); exact rfl) | ((with_reducible apply Dw.ev_varO); exact rfl) | ((with_reducible apply Dw.pk_cv); exact rfl) | ((with_reducible apply Dw.fs_ok); exact rfl) | ((with_reducible apply Dw.gE); exact rfl) | with_reducible apply Dw.ev_two | with_reducible apply Dw.ev_one | with_reducible apply Dw.ev_cons | with_reducible apply Dw.pks_cons | with_reducible apply Dw.ev_callE | with_reducible apply Dw.ev_isi | with_reducible apply Dw.frzs_cons | with_reducible apply Dw.ev_tup | with_reducible apply Dw.ev_lst | with_reducible apply Dw.ev_not | with_reducible apply Dw.ev_met | with_reducible apply Dw.ev_mut | with_reducible apply Dw.ev_ret | with_reducible apply Dw.ev_expr | with_reducible apply Dw.ev_asg | with_reducible apply Dw.ev_args | with_reducible apply Dw.ev_src | with_reducible apply Dw.ev_callD | with_reducible apply Dw.mapd_c | with_reducible apply Dw.mapd_d | with_reducible apply Dw.set_s | with_reducible apply Dw.st_d | with_reducible apply Dw.st_own | with_reducible apply Dw.st_cv | with_reducible apply Dw.frz_cv | ((with_reducible apply Dw.len_str); assumption) | ((with_reducible apply Dw.get_str) <;> assumption) | with_reducible assumption | ((with_reducible show Dw.okI _ = true); exact rfl)))) ?_
  refine ev_seq2 (env1 := [.d (.str p), .d (.str t), s2, .d (.int k), .own false (.lst (dI rs)), w']) ?_ ?_
  · rw [ev_for (ev_args (as := [.d (.int (((t.length + 1 : Nat)) : Int))]) (env1 := [.d (.str p), .d (.str t), s2, .d (.int k), .own false (.lst []), w5]) (by rw [show (((t.length + 1 : Nat)) : Int) = (t.length : Int) + 1 by omega]; repeat' (first  | with_reducible exact Dw.ty_str | with_reducible exact Dw.ty_lst | with_reducible exact Dw.lst_eq | with_reducible exact Dw.set_z | with_reducible exact Dw.ret_d | with_reducible exact Dw.ret_own | with_reducible exact Dw.mapd_nn | with_reducible exact Dw.ev_const | with_reducible exact Dw.ev_nil | with_reducible exact Dw.pk_d | with_reducible exact Dw.pk_own | with_reducible exact Dw.pks_nil | with_reducible exact Dw.frz_d | with_reducible exact Dw.frz_own | with_reducible exact Dw.frzs_nil | with_reducible exact Dw.tru_bl | with_reducible exact Dw.ev_skip | with_reducible exact Dw.len_lst | with_reducible exact Dw.len_tup | with_reducible exact Dw.eq_int | with_reducible exact Dw.ne_int | with_reducible exact Dw.eq_str | with_reducible exact Dw.ne_str | with_reducible exact Dw.eq_bl | with_reducible exact Dw.ne_bl | with_reducible exact Dw.lt_int' | with_reducible exact Dw.lt_str' | with_reducible exact Dw.le_int' | with_reducible exact Dw.gt_int' | with_reducible exact Dw.ge_int' | with_reducible exact Dw.add_int' | with_reducible exact Dw.sub_int' | with_reducible exact Dw.neg_int' | with_reducible exact Dw.ord_str | with_reducible exact Dw.int_int | with_reducible exact Dw.int_bl | with_reducible exact Dw.list_lst | with_reducible exact Dw.list_tup | with_reducible exact Dw.tup_lst | with_reducible exact Dw.tup_tup | with_reducible exact Dw.it_lst | with_reducible exact Dw.it_tup | with_reducible exact Dw.it_str | ((with_reducible apply Dw.ev_var); exact rfl) | ((with_reducible apply Dw.ev_varO); exact rfl) | ((with_reducible apply Dw.pk_cv); exact rfl) | ((with_reducible apply Dw.fs_ok); exact rfl) | ((with_reducible apply Dw.gE); exact rfl) | with_reducible apply Dw.ev_two | with_reducible apply Dw.ev_one | with_reducible apply Dw.ev_cons | with_reducible apply Dw.pks_cons | with_reducible apply Dw.ev_callE | with_reducible apply Dw.ev_isi | with_reducible apply Dw.frzs_cons | with_reducible apply Dw.ev_tup | with_reducible apply Dw.ev_lst | with_reducible apply Dw.ev_not | with_reducible apply Dw.ev_met | with_reducible apply Dw.ev_mut | with_reducible apply Dw.ev_ret | with_reducible apply Dw.ev_expr | with_reducible apply Dw.ev_asg | with_reducible apply Dw.ev_args | with_reducible apply Dw.ev_src | with_reducible apply Dw.ev_callD | with_reducible apply Dw.mapd_c | with_reducible apply Dw.mapd_d | with_reducible apply Dw.set_s | with_reducible apply Dw.st_d | with_reducible apply Dw.st_own | with_reducible apply Dw.st_cv | with_reducible apply Dw.frz_cv | ((with_reducible apply Dw.len_str); assumption) | ((with_reducible apply Dw.get_str) <;> assumption) | with_reducible assumption | ((with_reducible show Dw.okI _ = true); exact rfl))) rfl (rng1_nat (by omega)))]
    exact h4
  · exact ev_asg (a := .cv 4) (ev_varO rfl) (st_cv (x := .lst (dI rs)) (env1 := [.d (.str p), .d (.str t), s2, .d (.int k), .d (.lst (dI rs)), w']) (frz_cv rfl rfl) fr2 rfl)
theorem lm_outer {p t : List Nat} (hp : p.length ≤ 1000) (ht : t.length ≤ 20000) (m : Nat) : ∀ (k : Nat) (ps : List Int) (s2 w3 w4 w5 : SV), k + m = p.length → (s2 = .d (.lst (dI ps)) ∨ s2 = .own false (.lst (dI ps))) → flat w3 = true → flat w4 = true → flat w5 = true → (∀ j : Nat, j ≤ t.length → ((j : Int) ∈ ps ↔ Mb p t k j = true)) → (-1 : Int) ∉ ps →
    ∃ ps' s2' w3' w4' w5', (s2' = .d (.lst (dI ps')) ∨ s2' = .own false (.lst (dI ps'))) ∧ (∀ j : Nat, j ≤ t.length → ((j : Int) ∈ ps' ↔ Mb p t p.length j = true)) ∧ loopD (.nm 3) l_ulawumatches_2 ((List.range' k m).map fun i => .int (i : Nat)) [.d (.str p), .d (.str t), s2, w3, w4, w5] = some (.nx [.d (.str p), .d (.str t), s2', w3', w4', w5']) := by
  induction m with
  | zero =>
    intro k ps s2 w3 w4 w5 e h2 _ _ _ hps _
    have : k = p.length := by omega
    subst this
    exact ⟨ps, s2, w3, w4, w5, h2, hps, rfl⟩
  | succ m ih =>
    intro k ps s2 w3 w4 w5 e h2 f3 f4 f5 hps hpn
    have fw : freeSlot (some w3) = true := by
      cases w3 with
      | own b c => simp [flat] at f3
      | _ => rfl
    obtain ⟨rs, w', h3, hfw, tn⟩ := lm_outer_turn (k := k) h2 (.inl f4) f5 hp ht (by omega) hps hpn
    obtain ⟨ps', s2', w3', w4', w5', g1, g2, g3⟩ := ih (k + 1) rs (.d (.lst (dI rs))) (.d (.int k)) (.d (.lst (dI rs))) w' (by omega) (.inl rfl) rfl rfl hfw (by
      intro j hj
      rw [h3]
      constructor
      · rintro ⟨i, a, _, c⟩
        have : j = i := by omega
        rw [this]; exact c
      · intro h; exact ⟨j, rfl, by omega, h⟩) (by
      rw [h3]
      rintro ⟨i, a, _, _⟩
      omega)
    refine ⟨ps', s2', w3', w4', w5', g1, g2, ?_⟩
    rw [List.range'_succ, List.map_cons, loopD]
    simp only [putT, setSlot, List.getElem?_cons_succ, List.getElem?_cons_zero, fw, if_true, Option.bind_some, List.set_cons_succ, List.set_cons_zero]
    rw [tn]
    exact g3
theorem ev_lawmatches {p t : List Nat} (hp : p.length ≤ 1000) (ht : t.length ≤ 20000) : ∃ o, m_ulawumatches [.d (.str p), .d (.str t)] = some (.ok (.d (.bl (Mb p t p.length t.length))) o) := by
  have hs : (100000 : Nat) ≤ sizeLine := by decide
  have hpl : p.length ≤ sizeLine := by omega
  have htl : t.length ≤ sizeLine := by omega
  obtain ⟨ps, s2, w3, w4, w5, g1, g2, g3⟩ := lm_outer hp ht p.length 0 [0] (.own false (.lst (dI [0]))) .un .un .un (by omega) (.inr rfl) rfl rfl rfl (by
    intro j hj
    cases j with
    | zero => simp [Mb]
    | succ j =>
      rw [Mb]
      simp
      omega) (by simp)
  rw [← List.range_eq_range'] at g3
  have e : decide (((t.length : Nat) : Int) ∈ ps) = Mb p t p.length t.length := by
    rw [Bool.eq_iff_iff, decide_eq_true_eq]
    exact g2 t.length (Nat.le_refl _)
  refine ⟨[.d (.str p), .d (.str t)], defM_rt (a := .d (.bl (Mb p t p.length t.length))) (env := [.d (.str p), .d (.str t), s2, w3, w4, w5]) [.d (.str p), .d (.str t), .un, .un, .un, .un] rfl rfl ?_ rfl rfl⟩
  unfold b_ulawumatches
  refine ev_seq2 (env1 := [.d (.str p), .d (.str t), .own false (.lst (dI [0])), .un, .un, .un]) (ev_asg (a := .own (.lst [.int 0])) (by repeat' (first | exact (show 1 ≤ 100000 by decide) | with_reducible exact Dw.ty_str | with_reducible exact Dw.ty_lst | with_reducible exact Dw.lst_eq | with_reducible exact Dw.set_z | with_reducible exact Dw.ret_d | with_reducible exact Dw.ret_own | with_reducible exact Dw.mapd_nn | with_reducible exact Dw.ev_const | with_reducible exact Dw.ev_nil | with_reducible exact Dw.pk_d | with_reducible exact Dw.pk_own | with_reducible exact Dw.pks_nil | with_reducible exact Dw.frz_d | with_reducible exact Dw.frz_own | with_reducible exact Dw.frzs_nil | with_reducible exact Dw.tru_bl | with_reducible exact Dw.ev_skip | with_reducible exact Dw.len_lst | with_reducible exact Dw.len_tup | with_reducible exact Dw.eq_int | with_reducible exact Dw.ne_int | with_reducible exact Dw.eq_str | with_reducible exact Dw.ne_str | with_reducible exact Dw.eq_bl | with_reducible exact Dw.ne_bl | with_reducible exact Dw.lt_int' | with_reducible exact Dw.lt_str' | with_reducible exact Dw.le_int' | with_reducible exact Dw.gt_int' | with_reducible exact Dw.ge_int' | with_reducible exact Dw.add_int' | with_reducible exact Dw.sub_int' | with_reducible exact Dw.neg_int' | with_reducible exact Dw.ord_str | with_reducible exact Dw.int_int | with_reducible exact Dw.int_bl | with_reducible exact Dw.list_lst | with_reducible exact Dw.list_tup | with_reducible exact Dw.tup_lst | with_reducible exact Dw.tup_tup | with_reducible exact Dw.it_lst | with_reducible exact Dw.it_tup | with_reducible exact Dw.it_str | ((with_reducible apply Dw.ev_var); exact rfl) | ((with_reducible apply Dw.ev_varO); exact rfl) | ((with_reducible apply Dw.pk_cv); exact rfl) | ((with_reducible apply Dw.fs_ok); exact rfl) | ((with_reducible apply Dw.gE); exact rfl) | with_reducible apply Dw.ev_two | with_reducible apply Dw.ev_one | with_reducible apply Dw.ev_cons | with_reducible apply Dw.pks_cons | with_reducible apply Dw.ev_callE | with_reducible apply Dw.ev_isi | with_reducible apply Dw.frzs_cons | with_reducible apply Dw.ev_tup | with_reducible apply Dw.ev_lst | with_reducible apply Dw.ev_not | with_reducible apply Dw.ev_met | with_reducible apply Dw.ev_mut | with_reducible apply Dw.ev_ret | with_reducible apply Dw.ev_expr | with_reducible apply Dw.ev_asg | with_reducible apply Dw.ev_args | with_reducible apply Dw.ev_src | with_reducible apply Dw.ev_callD | with_reducible apply Dw.mapd_c | with_reducible apply Dw.mapd_d | with_reducible apply Dw.set_s | with_reducible apply Dw.st_d | with_reducible apply Dw.st_own | with_reducible apply Dw.st_cv | with_reducible apply Dw.frz_cv | ((with_reducible apply Dw.len_str); assumption) | ((with_reducible apply Dw.get_str) <;> assumption) | with_reducible assumption | ((with_reducible show Dw.okI _ = true); exact rfl))) (st_own rfl rfl)) ?_
  refine ev_seq2 (env1 := [.d (.str p), .d (.str t), s2, w3, w4, w5]) ?_ ?_
  · rw [ev_for (ev_args (as := [.d (.int p.length)]) (env1 := [.d (.str p), .d (.str t), .own false (.lst (dI [0])), .un, .un, .un]) (by repeat' (first  | with_reducible exact Dw.ty_str | with_reducible exact Dw.ty_lst | with_reducible exact Dw.lst_eq | with_reducible exact Dw.set_z | with_reducible exact Dw.ret_d | with_reducible exact Dw.ret_own | with_reducible exact Dw.mapd_nn | with_reducible exact Dw.ev_const | with_reducible exact Dw.ev_nil | with_reducible exact Dw.pk_d | with_reducible exact Dw.pk_own | with_reducible exact Dw.pks_nil | with_reducible exact Dw.frz_d | with_reducible exact Dw.frz_own | with_reducible exact Dw.frzs_nil | with_reducible exact Dw.tru_bl | with_reducible exact Dw.ev_skip | with_reducible exact Dw.len_lst | with_reducible exact Dw.len_tup | with_reducible exact Dw.eq_int | with_reducible exact Dw.ne_int | with_reducible exact Dw.eq_str | with_reducible exact Dw.ne_str | with_reducible exact Dw.eq_bl | with_reducible exact Dw.ne_bl | with_reducible exact Dw.lt_int' | with_reducible exact Dw.lt_str' | with_reducible exact Dw.le_int' | with_reducible exact Dw.gt_int' | with_reducible exact Dw.ge_int' | with_reducible exact Dw.add_int' | with_reducible exact Dw.sub_int' | with_reducible exact Dw.neg_int' | with_reducible exact Dw.ord_str | with_reducible exact Dw.int_int | with_reducible exact Dw.int_bl | with_reducible exact Dw.list_lst | with_reducible exact Dw.list_tup | with_reducible exact Dw.tup_lst | with_reducible exact Dw.tup_tup | with_reducible exact Dw.it_lst | with_reducible exact Dw.it_tup | with_reducible exact Dw.it_str | ((with_reducible apply Dw.ev_var); exact rfl) | ((with_reducible apply Dw.ev_varO); exact rfl) | ((with_reducible apply Dw.pk_cv); exact rfl) | ((with_reducible apply Dw.fs_ok); exact rfl) | ((with_reducible apply Dw.gE); exact rfl) | with_reducible apply Dw.ev_two | with_reducible apply Dw.ev_one | with_reducible apply Dw.ev_cons | with_reducible apply Dw.pks_cons | with_reducible apply Dw.ev_callE | with_reducible apply Dw.ev_isi | with_reducible apply Dw.frzs_cons | with_reducible apply Dw.ev_tup | with_reducible apply Dw.ev_lst | with_reducible apply Dw.ev_not | with_reducible apply Dw.ev_met | with_reducible apply Dw.ev_mut | with_reducible apply Dw.ev_ret | with_reducible apply Dw.ev_expr | with_reducible apply Dw.ev_asg | with_reducible apply Dw.ev_args | with_reducible apply Dw.ev_src | with_reducible apply Dw.ev_callD | with_reducible apply Dw.mapd_c | with_reducible apply Dw.mapd_d | with_reducible apply Dw.set_s | with_reducible apply Dw.st_d | with_reducible apply Dw.st_own | with_reducible apply Dw.st_cv | with_reducible apply Dw.frz_cv | ((with_reducible apply Dw.len_str); assumption) | ((with_reducible apply Dw.get_str) <;> assumption) | with_reducible assumption | ((with_reducible show Dw.okI _ = true); exact rfl))) rfl (rng1_nat (by omega)))]
    exact g3
  · obtain ⟨v2, hv, hp2⟩ : ∃ v2, varE 2 [.d (.str p), .d (.str t), s2, w3, w4, w5] = some (.ok v2 [.d (.str p), .d (.str t), s2, w3, w4, w5]) ∧ pk v2 [.d (.str p), .d (.str t), s2, w3, w4, w5] = some (.lst (dI ps)) := by
      rcases g1 with rfl | rfl
      · exact ⟨_, ev_var rfl, rfl⟩
      · exact ⟨.cv 2, ev_varO rfl, rfl⟩
    rw [← e]
    repeat' (first | with_reducible exact hv | with_reducible exact hp2 | with_reducible exact in_lstI | with_reducible exact Dw.ty_str | with_reducible exact Dw.ty_lst | with_reducible exact Dw.lst_eq | with_reducible exact Dw.set_z | with_reducible exact Dw.ret_d | with_reducible exact Dw.ret_own | with_reducible exact Dw.mapd_nn | with_reducible exact Dw.ev_const | with_reducible exact Dw.ev_nil | with_reducible exact Dw.pk_d | with_reducible exact Dw.pk_own | with_reducible exact Dw.pks_nil | with_reducible exact Dw.frz_d | with_reducible exact Dw.frz_own | with_reducible exact Dw.frzs_nil | with_reducible exact Dw.tru_bl | with_reducible exact Dw.ev_skip | with_reducible exact Dw.len_lst | with_reducible exact Dw.len_tup | with_reducible exact Dw.eq_int | with_reducible exact Dw.ne_int | with_reducible exact Dw.eq_str | with_reducible exact Dw.ne_str | with_reducible exact Dw.eq_bl | with_reducible exact Dw.ne_bl | with_reducible exact Dw.lt_int' | with_reducible exact Dw.lt_str' | with_reducible exact Dw.le_int' | with_reducible exact Dw.gt_int' | with_reducible exact Dw.ge_int' | with_reducible exact Dw.add_int' | with_reducible exact Dw.sub_int' | with_reducible exact Dw.neg_int' | with_reducible exact Dw.ord_str | with_reducible exact Dw.int_int | with_reducible exact Dw.int_bl | with_reducible exact Dw.list_lst | with_reducible exact Dw.list_tup | with_reducible exact Dw.tup_lst | with_reducible exact Dw.tup_tup | with_reducible exact Dw.it_lst | with_reducible exact Dw.it_tup | with_reducible exact Dw.it_str | ((with_reducible apply Dw.ev_var); exact rfl) | ((with_reducible apply Dw.ev_varO); exact rfl) | ((with_reducible apply Dw.pk_cv); exact rfl) | ((with_reducible apply Dw.fs_ok); exact rfl) | ((with_reducible apply Dw.gE); exact rfl) | with_reducible apply Dw.ev_two | with_reducible apply Dw.ev_one | with_reducible apply Dw.ev_cons | with_reducible apply Dw.pks_cons | with_reducible apply Dw.ev_callE | with_reducible apply Dw.ev_isi | with_reducible apply Dw.frzs_cons | with_reducible apply Dw.ev_tup | with_reducible apply Dw.ev_lst | with_reducible apply Dw.ev_not | with_reducible apply Dw.ev_met | with_reducible apply Dw.ev_mut | with_reducible apply Dw.ev_ret | with_reducible apply Dw.ev_expr | with_reducible apply Dw.ev_asg | with_reducible apply Dw.ev_args | with_reducible apply Dw.ev_src | with_reducible apply Dw.ev_callD | with_reducible apply Dw.mapd_c | with_reducible apply Dw.mapd_d | with_reducible apply Dw.set_s | with_reducible apply Dw.st_d | with_reducible apply Dw.st_own | with_reducible apply Dw.st_cv | with_reducible apply Dw.frz_cv | ((with_reducible apply Dw.len_str); assumption) | ((with_reducible apply Dw.get_str) <;> assumption) | with_reducible assumption | ((with_reducible show Dw.okI _ = true); exact rfl))
end
section
def mkM (x : List Nat) : List Nat := x.map fun c => if c = 42 then 42 else 0
theorem bq1 (l : List Nat) : (mkM l == [42]) = (l == [42]) := by
  cases l with
  | nil => rfl
  | cons a l =>
    cases l with
    | nil =>
      show ([if a = 42 then 42 else 0] == [42]) = ([a] == [42])
      by_cases h : a = 42
      · rw [if_pos h, h]
      · rw [if_neg h]
        have : ([a] == [42]) = false := by simpa using h
        rw [this]; rfl
    | cons b l =>
      have h1 : (a :: b :: l == [42]) = false := by simp
      have h2 : (mkM (a :: b :: l) == [42]) = false := by simp [mkM]
      rw [h1, h2]
theorem sub_mask (x : List Nat) (i : Nat) : Builtin.Str.subAt (mk (mkM x)) (mk [42]) i = Builtin.Str.subAt (mk x) (mk [42]) i := by
  have key : ∀ y : List Nat, Builtin.Str.subAt (mk y) (mk [42]) i = ((y.drop i).take 1 == [42]) := fun y => by
    show (y.toArray.extract i (i + 1) == [42].toArray) = _
    rw [List.extract_toArray, List.extract_eq_take_drop, Nat.add_sub_cancel_left]
    simp
  rw [key, key, mkM, ← List.map_drop, ← List.map_take]
  exact bq1 _
theorem occ_mask (x : List Nat) (n l : Nat) : Builtin.Str.occurrences (mk (mkM x)) (mk [42]) 0 n l = Builtin.Str.occurrences (mk x) (mk [42]) 0 n l := by
  unfold Builtin.Str.occurrences
  simp only [sub_mask]
def masks : Nat → List (List Nat)
  | 0 => [[]]
  | n + 1 => (masks n).flatMap fun y => [42 :: y, 0 :: y]
theorem mask_in : ∀ x : List Nat, mkM x ∈ masks x.length
  | [] => by decide
  | a :: x => by
    have ih := mask_in x
    show (if a = 42 then 42 else 0) :: mkM x ∈ masks (x.length + 1)
    refine List.mem_flatMap.mpr ⟨_, ih, ?_⟩
    by_cases h : a = 42
    · rw [if_pos h]; exact List.mem_cons_self ..
    · rw [if_neg h]; exact List.mem_cons_of_mem _ (List.mem_cons_self ..)
theorem mask_cnt : ∀ x : List Nat, (mkM x).count 42 = x.count 42
  | [] => rfl
  | a :: x => by
    show ((if a = 42 then 42 else 0) :: mkM x).count 42 = _
    rw [List.count_cons, List.count_cons, mask_cnt x]
    by_cases h : a = 42
    · rw [if_pos h, h]
    · rw [if_neg h]
      have h1 : (a == 42) = false := by simpa using h
      rw [h1]; rfl
theorem chk_masks : ((List.range 9).all fun n => (masks n).all fun y => decide (Txt.count (mk y) (mk [42]) = (y.count 42 : Nat))) = true := by decide +kernel
theorem cnt42 {x : List Nat} (h : x.length ≤ 8) : Txt.count (mk x) (mk [42]) = (x.count 42 : Nat) := by
  have h1 := List.all_eq_true.mp (List.all_eq_true.mp chk_masks x.length (List.mem_range.mpr (by omega))) _ (mask_in x)
  have h1 := of_decide_eq_true h1
  rw [mask_cnt] at h1
  rw [← h1]
  have hl : (mk (mkM x)).length = (mk x).length := by
    show (mkM x).toArray.size = x.toArray.size
    simp [mkM]
  unfold Txt.count
  rw [hl, occ_mask]
end
section
theorem cell_in {rs : List Int} {b : Int} {k : Nat} (h : ∀ r ∈ rs, 0 ≤ r ∧ r < b) (hk : k < rs.length) : 0 ≤ cellZ rs k ∧ cellZ rs k < b := by
  have : cellZ rs k ∈ rs := by
    unfold cellZ
    rw [List.getD_eq_getElem?_getD, List.getElem?_eq_getElem hk]
    exact List.getElem_mem hk
  exact h _ this
def goodc (c : Nat) : Prop := (97 ≤ c ∧ c < 123) ∨ c = 63 ∨ c = 42
def okP8 (p : List Nat) : Prop := p.length ≤ 4 ∧ (∀ c ∈ p, goodc c) ∧ p.count 42 ≤ 1
def A24 : List Nat := [97, 97, 98, 98, 99, 120, 121, 122, 97, 97, 98, 63, 63, 63, 42, 42, 42, 97, 98, 99, 97, 98, 42, 63]
theorem A24_good : ∀ n : Fin 24, (97 ≤ A24.getD n.val 0 ∧ A24.getD n.val 0 < 123) ∨ A24.getD n.val 0 = 63 ∨ A24.getD n.val 0 = 42 := by decide
theorem get_cell {rs : List Int} {k : Nat} (hk : k < rs.length) : getD (.lst (dI rs)) (.int (k : Int)) = some (.d (.int (cellZ rs k))) := Dw.get_lst (atI_int hk)
theorem ev_small {z : Int} : ∃ s : List Nat, okP8 s ∧ ∃ o, m_ulawusmall [.d (.int z)] = some (.ok (.d (.str s)) o) := by
  have : wF (m_ulawusmall [.d (.int z)]) (fun u _ => ∃ s, okP8 s ∧ u = .d (.str s)) nX := by
    refine w_defM rfl (by fail "S") ?_
    unfold b_ulawusmall
    obtain ⟨rs, h1, h2, o, h3⟩ := ev_row (c := z) (n := 6) (b := 24) (by omega) (by decide) (by decide)
    have h3 : m_ulawurow [.d (.int z), .d (.int 6), .d (.int 24)] = some (.ok (.own (.lst (dI rs))) o) := h3
    have g5 : getD (.lst (dI rs)) (.int 5) = some (.d (.int (cellZ rs 5))) := get_cell (k := 5) (by omega)
    obtain ⟨n, e1, e2⟩ := modN (c := cellZ rs 5) (n := 5) (by decide)
    have m1 : modD (.int (cellZ rs 5)) (.int 5) = some (.d (.int n)) := by rw [mod_ok (by decide)]; rw [← e1]; rfl
    have hr : rng1 [.int (n : Nat)] = some ((List.range n).map fun i => .int (i : Nat)) := rng1_nat (n := n) (by omega)
    (repeat' fail "V")
    refine w_loopR (n := n) (fun k e => ∃ (s : List Nat) (w3 w4 : SV), freeSlot (some w3) = true ∧ freeSlot (some w4) = true ∧ s.length = k ∧ (∀ c ∈ s, goodc c) ∧ s.count 42 ≤ 1 ∧ e = [.d (.int z), .own false (.lst (dI rs)), .d (.str s), w3, w4]) ⟨[], _, _, rfl, rfl, rfl, fun c hc => (List.not_mem_nil hc).elim, Nat.zero_le _, rfl⟩ ?_ ?_
    · rintro k _ hk ⟨s, w3, w4, f3, f4, sl, sg, sc, rfl⟩
      refine ⟨[.d (.int z), .own false (.lst (dI rs)), .d (.str s), .d (.int (k : Nat)), w4], put_nm f3 rfl, ?_⟩
      obtain ⟨r0, r1⟩ := cell_in h1 (show k < rs.length by omega)
      have g1 := get_cell (rs := rs) (k := k) (by omega)
      obtain ⟨m, hm⟩ : ∃ m : Nat, cellZ rs k = m := ⟨(cellZ rs k).toNat, by omega⟩
      rw [hm] at g1 r0 r1
      have hA := A24_good ⟨m, by omega⟩
      have ga := atI_chr (p := A24) (i := m) (by simp [A24]; omega)
      generalize A24.getD m 0 = a at hA ga
      have ga2 : getD (.str A24) (.int (m : Int)) = some (.d (.str [a])) := Dw.get_str (by decide) ga
      unfold A24 at ga2
      have ct : textM countL (.str s) [.str [42]] = some (.d (.int (Txt.count (mk s) (mk [42])))) := rfl
      rw [cnt42 (by omega)] at ct
      have hsl : s.length ≤ sizeLine := Nat.le_trans (by omega : s.length ≤ 4) (by decide)
      have h5 : (100000 : Nat) ≤ sizeLine := by decide
      have ad : ∀ b : Nat, addD (.str s) (.str [b]) = some (.d (.str (s ++ [b]))) := fun b => Dw.add_str (by rw [List.length_singleton]; omega)
      have a63 := ad 63
      have aa := ad a
      unfold l_ulawusmall_1
      refine w_seqP (fun e => e = [.d (.int z), .own false (.lst (dI rs)), .d (.str s), .d (.int (k : Nat)), .d (.str [a])]) ?_ ?_
      · (repeat' fail "V")
        rfl
      rintro _ rfl
      refine w_seqP (fun e => ∃ b, goodc b ∧ (b = 42 → s.count 42 = 0) ∧ e = [.d (.int z), .own false (.lst (dI rs)), .d (.str s), .d (.int (k : Nat)), .d (.str [b])]) ?_ ?_
      · (repeat' fail "V")
        · intro h
          have ha : a = 42 := by simpa using h
          subst ha
          (repeat' fail "V")
          · intro h2
            exact ⟨63, .inr (.inl rfl), fun z => absurd z (by decide), rfl⟩
          · intro h2
            have h2 : ¬ ((s.count 42 : Nat) : Int) = 1 := by simpa using h2
            exact ⟨42, .inr (.inr rfl), fun _ => by omega, rfl⟩
        · intro h
          have ha : a ≠ 42 := by simpa using h
          (repeat' fail "V")
          exact ⟨a, hA, fun z => absurd z ha, rfl⟩
      rintro _ ⟨b, hb, hb2, rfl⟩
      have ab := ad b
      (repeat' fail "V")
      refine ⟨_, _, _, rfl, rfl, by rw [List.length_append, sl]; rfl, fun c hc => ?_, ?_, rfl⟩
      · rcases List.mem_append.mp hc with hc | hc
        · exact sg c hc
        · rw [List.mem_singleton.mp hc]; exact hb
      · rw [List.count_append]
        by_cases h : b = 42
        · rw [hb2 h, h]; decide
        · have : [b].count 42 = 0 := by simp [List.count_cons, h]
          omega
    · rintro _ ⟨s, w3, w4, f3, f4, sl, sg, sc, rfl⟩
      (repeat' fail "V")
      exact ⟨s, ⟨by omega, sg, sc⟩, rfl⟩
  obtain ⟨a, o, h1, s, h2, rfl⟩ := wF_get this
  exact ⟨s, h2, o, h1⟩
end
section
abbrev sL (ps : List (List Nat)) : List D := ps.map D.str
theorem notin_S {z : List Nat} {ls : List (List Nat)} : notInG (.str z) (.lst (ls.map D.str)) = some (.d (.bl (!decide (z ∈ ls)))) := notInG_of (inG_in Dw.in_lstS)
def okPs (ps : List (List Nat)) : Prop := ps.length ≤ 3 ∧ ∀ p ∈ ps, okP8 p
theorem ev_pats {ns : List Int} : ∃ ps : List (List Nat), okPs ps ∧ ps.Nodup ∧ ∃ o, m_ulawupatterns [.d (.lst (dI ns)), .d (.int 0), .d (.int 3)] = some (.ok (.own (.lst (sL ps))) o) := by
  have : wF (m_ulawupatterns [.d (.lst (dI ns)), .d (.int 0), .d (.int 3)]) (fun u _ => ∃ ps, (okPs ps ∧ ps.Nodup) ∧ u = .own (.lst (sL ps))) nX := by
    refine w_defM rfl (by fail "S") ?_
    unfold b_ulawupatterns
    have hc : m_ulawucell [.d (.lst (dI ns)), .d (.int 0)] = some (.ok (.d (.int (cellZ ns 0))) [.d (.lst (dI ns)), .d (.int 0)]) := ev_cell (ns := ns) (k := 0)
    obtain ⟨n, e1, e2⟩ := modN (c := cellZ ns 0) (n := 4) (by decide)
    have m1 : modD (.int (cellZ ns 0)) (.int (3 + 1)) = some (.d (.int n)) := by rw [mod_ok (by decide)]; rw [← e1]; rfl
    have hr : rng1 [.int (n : Nat)] = some ((List.range n).map fun i => .int (i : Nat)) := rng1_nat (n := n) (by omega)
    (repeat' fail "V")
    refine w_loopR (n := n) (fun k e => ∃ (ps : List (List Nat)) (w4 w5 : SV), freeSlot (some w4) = true ∧ freeSlot (some w5) = true ∧ ps.length ≤ k ∧ (∀ p ∈ ps, okP8 p) ∧ ps.Nodup ∧ e = [.d (.lst (dI ns)), .d (.int 0), .d (.int 3), .own false (.lst (sL ps)), w4, w5]) ⟨[], _, _, rfl, rfl, Nat.le_refl _, fun c hc => (List.not_mem_nil hc).elim, .nil, rfl⟩ ?_ ?_
    · rintro k _ hk ⟨ps, w4, w5, f4, f5, hl, hp, hn, rfl⟩
      refine ⟨[.d (.lst (dI ns)), .d (.int 0), .d (.int 3), .own false (.lst (sL ps)), .d (.int (k : Nat)), w5], put_nm f4 rfl, ?_⟩
      obtain ⟨s, s1, o, s3⟩ := ev_small (z := cellZ ns (1 + k))
      have hc : m_ulawucell [.d (.lst (dI ns)), .d (.int ((0 : Int) + 1 + (k : Nat)))] = some (.ok (.d (.int (cellZ ns (1 + k)))) [.d (.lst (dI ns)), .d (.int ((1 + k : Nat) : Int))]) := by
        rw [show ((0 : Int) + 1 + (k : Nat)) = ((1 + k : Nat) : Int) by push_cast; omega]
        exact ev_cell
      have ni := notin_S (z := s) (ls := ps)
      have hl4 : (sL ps).length ≤ 4 := by rw [sL, List.length_map]; omega
      unfold l_ulawupatterns_1
      (repeat' fail "V")
      · intro h
        (repeat' fail "V")
        have hm : s ∉ ps := by simpa using h
        refine ⟨ps ++ [s], _, _, rfl, rfl, by rw [List.length_append, List.length_singleton]; omega, fun p h => ?_, List.nodup_append.mpr ⟨hn, by simp, fun a ha b hb => by rw [List.mem_singleton.mp hb]; exact fun e => hm (e ▸ ha)⟩, by rw [sL, sL, List.map_append]; rfl⟩
        rcases List.mem_append.mp h with h | h
        · exact hp p h
        · rw [List.mem_singleton.mp h]; exact s1
      · intro h
        exact ⟨ps, _, _, rfl, rfl, by omega, hp, hn, rfl⟩
    · rintro _ ⟨ps, w4, w5, f4, f5, hl, hp, hn, rfl⟩
      (repeat' fail "V")
      exact ⟨ps, ⟨⟨by omega, hp⟩, hn⟩, rfl⟩
  obtain ⟨a, o, h1, ps, h2, rfl⟩ := wF_get this
  exact ⟨ps, h2.1, h2.2, o, h1⟩
end
section
theorem near_elt {a b c d e f : SV} {r : Int} (h0 : 0 ≤ r) (h : r < 26) : e_ulawunear_1 [a, b, c, d, e, f, .d (.int r)] = some (.ok (.d (.str [letterAt r])) [a, b, c, d, e, f, .d (.int r)]) := by
  have ha := atI_letter h0 h
  unfold letters at ha
  have g : getD (.str [97, 98, 99, 100, 101, 102, 103, 104, 105, 106, 107, 108, 109, 110, 111, 112, 113, 114, 115, 116, 117, 118, 119, 120, 121, 122]) (.int r) = some (.d (.str [letterAt r])) := Dw.get_str (by decide) ha
  unfold e_ulawunear_1
  repeat' (first | with_reducible exact g | with_reducible exact Dw.ty_str | with_reducible exact Dw.ty_lst | with_reducible exact Dw.lst_eq | with_reducible exact Dw.set_z | with_reducible exact Dw.ret_d | with_reducible exact Dw.ret_own | with_reducible exact Dw.mapd_nn | with_reducible exact Dw.ev_const | with_reducible exact Dw.ev_nil | with_reducible exact Dw.pk_d | with_reducible exact Dw.pk_own | with_reducible exact Dw.pks_nil | with_reducible exact Dw.frz_d | with_reducible exact Dw.frz_own | with_reducible exact Dw.frzs_nil | with_reducible exact Dw.tru_bl | with_reducible exact Dw.ev_skip | with_reducible exact Dw.len_lst | with_reducible exact Dw.len_tup | with_reducible exact Dw.eq_int | with_reducible exact Dw.ne_int | with_reducible exact Dw.eq_str | with_reducible exact Dw.ne_str | with_reducible exact Dw.eq_bl | with_reducible exact Dw.ne_bl | with_reducible exact Dw.lt_int' | with_reducible exact Dw.lt_str' | with_reducible exact Dw.le_int' | with_reducible exact Dw.gt_int' | with_reducible exact Dw.ge_int' | with_reducible exact Dw.add_int' | with_reducible exact Dw.sub_int' | with_reducible exact Dw.neg_int' | with_reducible exact Dw.ord_str | with_reducible exact Dw.int_int | with_reducible exact Dw.int_bl | with_reducible exact Dw.list_lst | with_reducible exact Dw.list_tup | with_reducible exact Dw.tup_lst | with_reducible exact Dw.tup_tup | with_reducible exact Dw.it_lst | with_reducible exact Dw.it_tup | with_reducible exact Dw.it_str | ((with_reducible apply Dw.ev_var); exact rfl) | ((with_reducible apply Dw.ev_varO); exact rfl) | ((with_reducible apply Dw.pk_cv); exact rfl) | ((with_reducible apply Dw.fs_ok); exact rfl) | ((with_reducible apply Dw.gE); exact rfl) | with_reducible apply Dw.ev_two | with_reducible apply Dw.ev_one | with_reducible apply Dw.ev_cons | with_reducible apply Dw.pks_cons | with_reducible apply Dw.ev_callE | with_reducible apply Dw.ev_isi | with_reducible apply Dw.frzs_cons | with_reducible apply Dw.ev_tup | with_reducible apply Dw.ev_lst | with_reducible apply Dw.ev_not | with_reducible apply Dw.ev_met | with_reducible apply Dw.ev_mut | with_reducible apply Dw.ev_ret | with_reducible apply Dw.ev_expr | with_reducible apply Dw.ev_asg | with_reducible apply Dw.ev_args | with_reducible apply Dw.ev_src | with_reducible apply Dw.ev_callD | with_reducible apply Dw.mapd_c | with_reducible apply Dw.mapd_d | with_reducible apply Dw.set_s | with_reducible apply Dw.st_d | with_reducible apply Dw.st_own | with_reducible apply Dw.st_cv | with_reducible apply Dw.frz_cv | ((with_reducible apply Dw.len_str); assumption) | ((with_reducible apply Dw.get_str) <;> assumption) | with_reducible assumption | ((with_reducible show Dw.okI _ = true); exact rfl))
theorem near_comp {a b c d e f : SV} : ∀ (rs : List Int) (acc : List D), (∀ r ∈ rs, 0 ≤ r ∧ r < 26) → acc.length + rs.length ≤ 100000 → compD [6] (.nm 6) none e_ulawunear_1 (dI rs) acc [a, b, c, d, e, f, .un] = some (acc ++ rs.map fun r => .str [letterAt r], [a, b, c, d, e, f, .un])
  | [], acc, _, _ => by simp [compD]
  | r :: rs, acc, h, hl => by
    rw [List.length_cons] at hl
    obtain ⟨h0, h1⟩ := h r (List.mem_cons_self ..)
    have ih := near_comp (a := a) (b := b) (c := c) (d := d) (e := e) (f := f) rs (acc ++ [.str [letterAt r]]) (fun x hx => h x (List.mem_cons_of_mem _ hx)) (by simp; omega)
    have hc : acc.length < 100000 := by omega
    rw [dI, List.map_cons, compD]
    simp only [putT, setSlot, List.getElem?_cons_succ, List.getElem?_cons_zero, freeSlot, if_true, Option.bind_some, List.set_cons_succ, List.set_cons_zero, bindTD, eltD]
    rw [near_elt h0 h1]
    simp only [frz, Option.bind_some]
    rw [if_pos hc]
    simp only [clr, List.set_cons_succ, List.set_cons_zero]
    rw [show List.map D.int rs = dI rs from rfl, ih, List.append_assoc]
    rfl
theorem cut_dI (rs : List Int) (lo hi : Option Int) : cutL (dI rs) lo hi = dI (cutL rs lo hi) := by
  unfold cutL dI
  rw [List.length_map, List.map_take, List.map_drop]
theorem cut_subI {x : List Int} {lo hi : Option Int} : (cutL x lo hi).length ≤ x.length ∧ ∀ c ∈ cutL x lo hi, c ∈ x := by
  unfold cutL
  refine ⟨?_, fun c h => List.mem_of_mem_drop (List.mem_of_mem_take h)⟩
  rw [List.length_take, List.length_drop]
  omega
def okC (c : Nat) : Prop := 97 ≤ c ∧ c < 123
theorem ltC {r : Int} (h : 0 ≤ r ∧ r < 26) : okC (letterAt r) := by unfold okC letterAt; omega
theorem ev_near {ns : List Int} {p : List Nat} (hp : okP8 p) : ∃ x : List Nat, (x.length ≤ 60 ∧ ∀ c ∈ x, okC c) ∧ ∃ o, m_ulawunear [.d (.lst (dI ns)), .d (.int 8), .d (.str p)] = some (.ok (.d (.str x)) o) := by
  have : wF (m_ulawunear [.d (.lst (dI ns)), .d (.int 8), .d (.str p)]) (fun u _ => ∃ x, (x.length ≤ 60 ∧ ∀ c ∈ x, okC c) ∧ u = .d (.str x)) nX := by
    obtain ⟨p1, p2, p3⟩ := hp
    refine w_defM rfl (by fail "S") ?_
    unfold b_ulawunear
    have hz : (100000 : Nat) ≤ sizeLine := by decide
    obtain ⟨rs, h1, h2, o, h3⟩ := ev_row (c := cellZ ns 8) (n := 12) (b := 26) (by omega) (by decide) (by decide)
    have h3 : m_ulawurow [.d (.int (cellZ ns 8)), .d (.int 12), .d (.int 26)] = some (.ok (.own (.lst (dI rs))) o) := h3
    have hc : m_ulawucell [.d (.lst (dI ns)), .d (.int 8)] = some (.ok (.d (.int (cellZ ns 8))) [.d (.lst (dI ns)), .d (.int 8)]) := ev_cell (ns := ns) (k := 8)
    have g8 : getD (.lst (dI rs)) (.int 8) = some (.d (.int (cellZ rs 8))) := get_cell (k := 8) (by omega)
    have g9 : getD (.lst (dI rs)) (.int 9) = some (.d (.int (cellZ rs 9))) := get_cell (k := 9) (by omega)
    have g10 : getD (.lst (dI rs)) (.int 10) = some (.d (.int (cellZ rs 10))) := get_cell (k := 10) (by omega)
    have hpl : p.length ≤ sizeLine := by omega
    have hr : rng1 [.int (p.length : Nat)] = some ((List.range p.length).map fun i => .int (i : Nat)) := rng1_nat (n := p.length) (by omega)
    (repeat' fail "V")
    refine w_loopR (n := p.length) (fun k e => ∃ (x : List Nat) (w : SV), freeSlot (some w) = true ∧ x.length ≤ 12 * k ∧ (∀ c ∈ x, okC c) ∧ e = [.d (.lst (dI ns)), .d (.int 8), .d (.str p), .own false (.lst (dI rs)), .d (.str x), w, .un]) ⟨[], _, rfl, Nat.zero_le _, fun c hc => (List.not_mem_nil hc).elim, rfl⟩ ?_ ?_
    · rintro k _ hk ⟨x, w, fw, xl, xc, rfl⟩
      refine ⟨[.d (.lst (dI ns)), .d (.int 8), .d (.str p), .own false (.lst (dI rs)), .d (.str x), .d (.int (k : Nat)), .un], put_nm fw rfl, ?_⟩
      have gp := atI_chr hk
      have hgc := p2 (p.getD k 0) (by rw [List.getD_eq_getElem?_getD, List.getElem?_eq_getElem hk]; exact List.getElem_mem hk)
      generalize p.getD k 0 = s at gp hgc
      have gp2 : getD (.str p) (.int (k : Int)) = some (.d (.str [s])) := Dw.get_str (by omega) gp
      have add : ∀ y : List Nat, y.length ≤ 12 → addD (.str x) (.str y) = some (.d (.str (x ++ y))) := fun y hy => Dw.add_str (by omega)
      have fin : ∀ y : List Nat, y.length ≤ 12 → (∀ c ∈ y, okC c) → (x ++ y).length ≤ 12 * (k + 1) ∧ ∀ c ∈ x ++ y, okC c := fun y hy hc => ⟨by rw [List.length_append]; omega, fun c h => by rcases List.mem_append.mp h with h | h; exact xc c h; exact hc c h⟩
      unfold l_ulawunear_2
      (repeat' fail "V")
      · intro h
        have f8 : fdivD (.int (cellZ rs 8)) (.int 8) = some (.d (.int (cellZ rs 8 / 8))) := fdiv_ok (by decide) (by decide)
        generalize cellZ rs 8 / 8 = q at f8
        obtain ⟨s1, s2⟩ := cut_subI (x := rs) (lo := none) (hi := some q)
        have d1 : cutD (.lst (dI rs)) none (some q) = some (.own (.lst (dI (cutL rs none (some q))))) := by rw [← cut_dI]; rfl
        generalize cutL rs none (some q) = cs at s1 s2 d1
        have cp := near_comp (a := .d (.lst (dI ns))) (b := .d (.int 8)) (c := .d (.str p)) (d := .own false (.lst (dI rs))) (e := .d (.str x)) (f := .d (.int (k : Nat))) cs [] (fun r h => h1 r (s2 r h)) (by simp; omega)
        rw [List.nil_append] at cp
        have e3 : joinD (.str []) [.lst (cs.map fun r => .str [letterAt r])] = some (.d (.str (cs.map letterAt))) := by
          simp only [joinD]
          rw [txts_of, Option.bind_some, joinL_nil, flat_of, if_pos (by rw [sum_ones]; simp; omega)]
        have a1 := add (cs.map letterAt) (by rw [List.length_map]; omega)
        obtain ⟨f1, f2⟩ := fin (cs.map letterAt) (by rw [List.length_map]; omega) (fun c hc => by
          obtain ⟨r, hr, rfl⟩ := List.mem_map.mp hc
          exact ltC (h1 r (s2 r hr)))
        have it : itemsD (.lst (dI cs)) = some (dI cs) := rfl
        generalize hL : D.lst (dI cs) = L at it
        (repeat' fail "V")
        refine Dw.w_comp1 (env2 := [.d (.lst (dI ns)), .d (.int 8), .d (.str p), .own false (.lst (dI rs)), .d (.str x), .d (.int (k : Nat)), .un]) cp rfl ?_
        (repeat' fail "V")
        exact ⟨_, _, rfl, f1, f2, rfl⟩
      · intro h
        (repeat' fail "V")
        · intro h2
          have gj := get_cell (rs := rs) (k := k) (by omega)
          have r01 := cell_in h1 (show k < rs.length by omega)
          have ga := atI_letter r01.1 r01.2
          unfold letters at ga
          have g2 : getD (.str [97, 98, 99, 100, 101, 102, 103, 104, 105, 106, 107, 108, 109, 110, 111, 112, 113, 114, 115, 116, 117, 118, 119, 120, 121, 122]) (.int (cellZ rs k)) = some (.d (.str [letterAt (cellZ rs k)])) := Dw.get_str (by decide) ga
          have a1 := add [letterAt (cellZ rs k)] (show 1 ≤ 12 by decide)
          obtain ⟨f1, f2⟩ := fin [letterAt (cellZ rs k)] (show 1 ≤ 12 by decide) (fun c hc => by rw [List.mem_singleton.mp hc]; exact ltC r01)
          (repeat' fail "V")
          exact ⟨_, _, rfl, f1, f2, rfl⟩
        · intro h2
          have a1 := add [s] (show 1 ≤ 12 by decide)
          have hs1 : s ≠ 42 := by simpa using h
          have hs2 : s ≠ 63 := by simpa using h2
          obtain ⟨f1, f2⟩ := fin [s] (show 1 ≤ 12 by decide) (fun c hc => by
            rw [List.mem_singleton.mp hc]
            rcases hgc with g | g | g
            · exact g
            · exact absurd g hs2
            · exact absurd g hs1)
          (repeat' fail "V")
          exact ⟨_, _, rfl, f1, f2, rfl⟩
    · rintro _ ⟨x, w, fw, xl, xc, rfl⟩
      refine w_seqP (fun e => ∃ (x : List Nat), x.length ≤ 51 ∧ (∀ c ∈ x, okC c) ∧ e = [.d (.lst (dI ns)), .d (.int 8), .d (.str p), .own false (.lst (dI rs)), .d (.str x), w, .un]) ?_ ?_
      · have r01 := cell_in h1 (show 10 < rs.length by omega)
        have ga := atI_letter r01.1 r01.2
        unfold letters at ga
        have g2 : getD (.str [97, 98, 99, 100, 101, 102, 103, 104, 105, 106, 107, 108, 109, 110, 111, 112, 113, 114, 115, 116, 117, 118, 119, 120, 121, 122]) (.int (cellZ rs 10)) = some (.d (.str [letterAt (cellZ rs 10)])) := Dw.get_str (by decide) ga
        have a1 : addD (.str x) (.str [letterAt (cellZ rs 10)]) = some (.d (.str (x ++ [letterAt (cellZ rs 10)]))) := Dw.add_str (by rw [List.length_singleton]; omega)
        (repeat' fail "V")
        · intro _
          (repeat' fail "V")
          exact ⟨_, by rw [List.length_append, List.length_singleton]; omega, fun c h => by rcases List.mem_append.mp h with h | h; exact xc c h; rw [List.mem_singleton.mp h]; exact ltC r01, rfl⟩
        · intro _
          exact ⟨x, by omega, xc, rfl⟩
      rintro _ ⟨x, xl, xc, rfl⟩
      refine w_seqP (fun e => ∃ (x : List Nat), x.length ≤ 51 ∧ (∀ c ∈ x, okC c) ∧ e = [.d (.lst (dI ns)), .d (.int 8), .d (.str p), .own false (.lst (dI rs)), .d (.str x), w, .un]) ?_ ?_
      · have cs : cutD (.str x) (some 1) none = some (.d (.str (cutL x (some 1) none))) := Dw.cut_str (by omega)
        have sb : (cutL x (some 1) none).length ≤ x.length ∧ ∀ c ∈ cutL x (some 1) none, c ∈ x := by
          unfold cutL
          refine ⟨?_, fun c h => List.mem_of_mem_drop (List.mem_of_mem_take h)⟩
          rw [List.length_take, List.length_drop]
          omega
        generalize cutL x (some 1) none = y at cs sb
        (repeat' fail "V")
        · intro _
          (repeat' fail "V")
          exact ⟨_, by omega, fun c h => xc c (sb.2 c h), rfl⟩
        · intro _
          exact ⟨x, by omega, xc, rfl⟩
      rintro _ ⟨x, xl, xc, rfl⟩
      (repeat' fail "V")
      exact ⟨x, ⟨by omega, xc⟩, rfl⟩
  obtain ⟨a, o, h1, x, h2, rfl⟩ := wF_get this
  exact ⟨x, h2, o, h1⟩
end
section
theorem Mb_congr {p q t u : List Nat} : ∀ (n k j : Nat), k + j ≤ n → (∀ i, i < k → p.getD i 0 = q.getD i 0) → (∀ i, i < j → t.getD i 0 = u.getD i 0) → Mb p t k j = Mb q u k j := by
  intro n
  induction n with
  | zero =>
    intro k j h _ _
    have e1 : k = 0 := by omega
    have e2 : j = 0 := by omega
    subst e1 e2
    rw [Mb, Mb]
  | succ n ih =>
    intro k j h hp ht
    cases k with
    | zero => cases j <;> rw [Mb, Mb]
    | succ k =>
      cases j with
      | zero => rw [Mb, Mb, hp k (by omega), ih k 0 (by omega) (fun i hi => hp i (by omega)) ht]
      | succ j =>
        rw [Mb, Mb, hp k (by omega), ht j (by omega), ih k (j + 1) (by omega) (fun i hi => hp i (by omega)) ht, ih (k + 1) j (by omega) hp (fun i hi => ht i (by omega)), ih k j (by omega) (fun i hi => hp i (by omega)) (fun i hi => ht i (by omega))]
def Lx (p t : List Nat) (j n : Nat) : List Int := ((List.range n).filter fun k => Mb p t k j).map fun k : Nat => (k : Int)
abbrev Ls (p t : List Nat) (j : Nat) : List Int := Lx p t j (p.length + 1)
theorem Lx_succ {p t : List Nat} {j n : Nat} : Lx p t j (n + 1) = if Mb p t n j = true then Lx p t j n ++ [(n : Int)] else Lx p t j n := by
  unfold Lx
  rw [List.range_succ, List.filter_append, List.map_append]
  by_cases h : Mb p t n j = true
  · rw [if_pos h, List.filter_cons_of_pos (p := fun k => Mb p t k j) h]
    rfl
  · rw [if_neg h, List.filter_cons_of_neg (p := fun k => Mb p t k j) h]
    simp
theorem Lx_mem {p t : List Nat} {j n k : Nat} : (k : Int) ∈ Lx p t j n ↔ k < n ∧ Mb p t k j = true := by
  unfold Lx
  rw [List.mem_map]
  constructor
  · rintro ⟨i, h, e⟩
    rw [List.mem_filter, List.mem_range] at h
    have : i = k := by omega
    subst this
    exact h
  · rintro ⟨h1, h2⟩
    exact ⟨k, List.mem_filter.mpr ⟨List.mem_range.mpr h1, h2⟩, rfl⟩
theorem Ls_mem {p t : List Nat} {j k : Nat} (h : k ≤ p.length) : (k : Int) ∈ Ls p t j ↔ Mb p t k j = true := by
  rw [Lx_mem]
  exact ⟨fun g => g.2, fun g => ⟨by omega, g⟩⟩
theorem Lx_len {p t : List Nat} {j n : Nat} : (Lx p t j n).length ≤ n := by
  unfold Lx
  rw [List.length_map]
  refine Nat.le_trans (List.length_filter_le _ _) ?_
  rw [List.length_range]
  exact Nat.le_refl _
theorem nextX_loop {p t : List Nat} {j : Nat} (hp : p.length ≤ 900) (suf : List Nat) : ∀ (pre : List Nat) (w5 w6 : SV), p = pre ++ suf → freeSlot (some w5) = true → freeSlot (some w6) = true →
    ∃ b' w5' w6', loopD (.two 5 6) l_next_lengths_1 (enumL pre.length (suf.map fun c => .str [c])) [.d (.str p), .d (.tup (dI (Ls p t j))), .d (.str [t.getD j 0]), .own false (.lst (dI (Lx p t (j + 1) (pre.length + 1)))), .d (.bl (Mb p t pre.length (j + 1))), w5, w6] =
      some (.nx [.d (.str p), .d (.tup (dI (Ls p t j))), .d (.str [t.getD j 0]), .own false (.lst (dI (Ls p t (j + 1)))), .d (.bl b'), w5', w6']) := by
  induction suf with
  | nil =>
    intro pre w5 w6 e _ _
    rw [List.append_nil] at e
    exact ⟨_, w5, w6, by rw [← e]; rfl⟩
  | cons c suf ih =>
    intro pre w5 w6 e f5 f6
    have hi : pre.length < p.length := by rw [e, List.length_append, List.length_cons]; omega
    have hc : p.getD pre.length 0 = c := by
      rw [e, List.getD_eq_getElem?_getD, List.getElem?_append_right (Nat.le_refl _), Nat.sub_self]
      rfl
    have hl := Lx_len (p := p) (t := t) (j := j + 1) (n := pre.length + 1)
    have tn := next_turn (p := p) (t := t) (ls := Ls p t j) (fs := Lx p t (j + 1) (pre.length + 1)) (i := pre.length) (j := j) (s := c) hc hi (by omega) (fun k hk => Ls_mem hk) rfl
    have hg : (if Mb p t (pre.length + 1) (j + 1) = true then Lx p t (j + 1) (pre.length + 1) ++ [(pre.length : Int) + 1] else Lx p t (j + 1) (pre.length + 1)) = Lx p t (j + 1) (pre.length + 1 + 1) := by
      rw [Lx_succ (n := pre.length + 1)]
      push_cast
      rfl
    rw [hg] at tn
    obtain ⟨b', w5', w6', h2⟩ := ih (pre ++ [c]) (.d (.int pre.length)) (.d (.str [c])) (by rw [e, List.append_assoc]; rfl) rfl rfl
    refine ⟨b', w5', w6', ?_⟩
    rw [List.map_cons, enumL_cons, loopD]
    simp only [putT, setSlot, List.getElem?_cons_succ, List.getElem?_cons_zero, f5, f6, if_true, Option.bind_some, List.set_cons_succ, List.set_cons_zero]
    rw [tn]
    dsimp only
    rw [List.length_append, List.length_singleton] at h2
    exact h2
theorem ev_nextX {p t : List Nat} {j : Nat} (hp : p.length ≤ 900) : ∃ o, m_next_lengths [.d (.str p), .d (.tup (dI (Ls p t j))), .d (.str [t.getD j 0])] = some (.ok (.d (.tup (dI (Ls p t (j + 1))))) o) := by
  have h00 : Mb p t 0 (j + 1) = false := by rw [Mb]
  obtain ⟨b, w5, w6, h2⟩ := nextX_loop (p := p) (t := t) (j := j) hp p [] .un .un rfl rfl rfl
  have hL : Lx p t (j + 1) (0 + 1) = [] := by
    rw [Lx_succ, if_neg (by rw [h00]; simp)]
    rfl
  rw [List.length_nil, h00, hL] at h2
  refine ⟨[.d (.str p), .d (.tup (dI (Ls p t j))), .d (.str [t.getD j 0])], defM_rt (a := .d (.tup (dI (Ls p t (j + 1))))) (env := [.d (.str p), .d (.tup (dI (Ls p t j))), .d (.str [t.getD j 0]), .own false (.lst (dI (Ls p t (j + 1)))), .d (.bl b), w5, w6]) [.d (.str p), .d (.tup (dI (Ls p t j))), .d (.str [t.getD j 0]), .un, .un, .un, .un] rfl rfl ?_ rfl rfl⟩
  generalize Ls p t j = l0 at h2 ⊢
  generalize Ls p t (j + 1) = l1 at h2 ⊢
  unfold b_next_lengths
  refine ev_seq2 (env1 := [.d (.str p), .d (.tup (dI l0)), .d (.str [t.getD j 0]), .own false (.lst []), .un, .un, .un]) (by repeat' (first | exact Nat.zero_le _ | with_reducible exact Dw.ty_str | with_reducible exact Dw.ty_lst | with_reducible exact Dw.lst_eq | with_reducible exact Dw.set_z | with_reducible exact Dw.ret_d | with_reducible exact Dw.ret_own | with_reducible exact Dw.mapd_nn | with_reducible exact Dw.ev_const | with_reducible exact Dw.ev_nil | with_reducible exact Dw.pk_d | with_reducible exact Dw.pk_own | with_reducible exact Dw.pks_nil | with_reducible exact Dw.frz_d | with_reducible exact Dw.frz_own | with_reducible exact Dw.frzs_nil | with_reducible exact Dw.tru_bl | with_reducible exact Dw.ev_skip | with_reducible exact Dw.len_lst | with_reducible exact Dw.len_tup | with_reducible exact Dw.eq_int | with_reducible exact Dw.ne_int | with_reducible exact Dw.eq_str | with_reducible exact Dw.ne_str | with_reducible exact Dw.eq_bl | with_reducible exact Dw.ne_bl | with_reducible exact Dw.lt_int' | with_reducible exact Dw.lt_str' | with_reducible exact Dw.le_int' | with_reducible exact Dw.gt_int' | with_reducible exact Dw.ge_int' | with_reducible exact Dw.add_int' | with_reducible exact Dw.sub_int' | with_reducible exact Dw.neg_int' | with_reducible exact Dw.ord_str | with_reducible exact Dw.int_int | with_reducible exact Dw.int_bl | with_reducible exact Dw.list_lst | with_reducible exact Dw.list_tup | with_reducible exact Dw.tup_lst | with_reducible exact Dw.tup_tup | with_reducible exact Dw.it_lst | with_reducible exact Dw.it_tup | with_reducible exact Dw.it_str | ((with_reducible apply Dw.ev_var); exact rfl) | ((with_reducible apply Dw.ev_varO); exact rfl) | ((with_reducible apply Dw.pk_cv); exact rfl) | ((with_reducible apply Dw.fs_ok); exact rfl) | ((with_reducible apply Dw.gE); exact rfl) | with_reducible apply Dw.ev_two | with_reducible apply Dw.ev_one | with_reducible apply Dw.ev_cons | with_reducible apply Dw.pks_cons | with_reducible apply Dw.ev_callE | with_reducible apply Dw.ev_isi | with_reducible apply Dw.frzs_cons | with_reducible apply Dw.ev_tup | with_reducible apply Dw.ev_lst | with_reducible apply Dw.ev_not | with_reducible apply Dw.ev_met | with_reducible apply Dw.ev_mut | with_reducible apply Dw.ev_ret | with_reducible apply Dw.ev_expr | with_reducible apply Dw.ev_asg | with_reducible apply Dw.ev_args | with_reducible apply Dw.ev_src | with_reducible apply Dw.ev_callD | with_reducible apply Dw.mapd_c | with_reducible apply Dw.mapd_d | with_reducible apply Dw.set_s | with_reducible apply Dw.st_d | with_reducible apply Dw.st_own | with_reducible apply Dw.st_cv | with_reducible apply Dw.frz_cv | ((with_reducible apply Dw.len_str); assumption) | ((with_reducible apply Dw.get_str) <;> assumption) | with_reducible assumption | ((with_reducible show Dw.okI _ = true); exact rfl))) ?_
  refine ev_seq2 (env1 := [.d (.str p), .d (.tup (dI l0)), .d (.str [t.getD j 0]), .own false (.lst []), .d (.bl false), .un, .un]) (by repeat' (first  | with_reducible exact Dw.ty_str | with_reducible exact Dw.ty_lst | with_reducible exact Dw.lst_eq | with_reducible exact Dw.set_z | with_reducible exact Dw.ret_d | with_reducible exact Dw.ret_own | with_reducible exact Dw.mapd_nn | with_reducible exact Dw.ev_const | with_reducible exact Dw.ev_nil | with_reducible exact Dw.pk_d | with_reducible exact Dw.pk_own | with_reducible exact Dw.pks_nil | with_reducible exact Dw.frz_d | with_reducible exact Dw.frz_own | with_reducible exact Dw.frzs_nil | with_reducible exact Dw.tru_bl | with_reducible exact Dw.ev_skip | with_reducible exact Dw.len_lst | with_reducible exact Dw.len_tup | with_reducible exact Dw.eq_int | with_reducible exact Dw.ne_int | with_reducible exact Dw.eq_str | with_reducible exact Dw.ne_str | with_reducible exact Dw.eq_bl | with_reducible exact Dw.ne_bl | with_reducible exact Dw.lt_int' | with_reducible exact Dw.lt_str' | with_reducible exact Dw.le_int' | with_reducible exact Dw.gt_int' | with_reducible exact Dw.ge_int' | with_reducible exact Dw.add_int' | with_reducible exact Dw.sub_int' | with_reducible exact Dw.neg_int' | with_reducible exact Dw.ord_str | with_reducible exact Dw.int_int | with_reducible exact Dw.int_bl | with_reducible exact Dw.list_lst | with_reducible exact Dw.list_tup | with_reducible exact Dw.tup_lst | with_reducible exact Dw.tup_tup | with_reducible exact Dw.it_lst | with_reducible exact Dw.it_tup | with_reducible exact Dw.it_str | ((with_reducible apply Dw.ev_var); exact rfl) | ((with_reducible apply Dw.ev_varO); exact rfl) | ((with_reducible apply Dw.pk_cv); exact rfl) | ((with_reducible apply Dw.fs_ok); exact rfl) | ((with_reducible apply Dw.gE); exact rfl) | with_reducible apply Dw.ev_two | with_reducible apply Dw.ev_one | with_reducible apply Dw.ev_cons | with_reducible apply Dw.pks_cons | with_reducible apply Dw.ev_callE | with_reducible apply Dw.ev_isi | with_reducible apply Dw.frzs_cons | with_reducible apply Dw.ev_tup | with_reducible apply Dw.ev_lst | with_reducible apply Dw.ev_not | with_reducible apply Dw.ev_met | with_reducible apply Dw.ev_mut | with_reducible apply Dw.ev_ret | with_reducible apply Dw.ev_expr | with_reducible apply Dw.ev_asg | with_reducible apply Dw.ev_args | with_reducible apply Dw.ev_src | with_reducible apply Dw.ev_callD | with_reducible apply Dw.mapd_c | with_reducible apply Dw.mapd_d | with_reducible apply Dw.set_s | with_reducible apply Dw.st_d | with_reducible apply Dw.st_own | with_reducible apply Dw.st_cv | with_reducible apply Dw.frz_cv | ((with_reducible apply Dw.len_str); assumption) | ((with_reducible apply Dw.get_str) <;> assumption) | with_reducible assumption | ((with_reducible show Dw.okI _ = true); exact rfl))) ?_
  refine ev_seq2 (env1 := [.d (.str p), .d (.tup (dI l0)), .d (.str [t.getD j 0]), .own false (.lst (dI l1)), .d (.bl b), w5, w6]) ?_ ?_
  · rw [ev_for (xs := enumL 0 (p.map fun c => .str [c])) (env1 := [.d (.str p), .d (.tup (dI l0)), .d (.str [t.getD j 0]), .own false (.lst []), .d (.bl false), .un, .un]) (by
      unfold enumE bindAI
      rw [ev_cons (a := .d (.str p)) (ev_var rfl) ev_nil]
      rfl)]
    exact h2
  · repeat' (first  | with_reducible exact Dw.ty_str | with_reducible exact Dw.ty_lst | with_reducible exact Dw.lst_eq | with_reducible exact Dw.set_z | with_reducible exact Dw.ret_d | with_reducible exact Dw.ret_own | with_reducible exact Dw.mapd_nn | with_reducible exact Dw.ev_const | with_reducible exact Dw.ev_nil | with_reducible exact Dw.pk_d | with_reducible exact Dw.pk_own | with_reducible exact Dw.pks_nil | with_reducible exact Dw.frz_d | with_reducible exact Dw.frz_own | with_reducible exact Dw.frzs_nil | with_reducible exact Dw.tru_bl | with_reducible exact Dw.ev_skip | with_reducible exact Dw.len_lst | with_reducible exact Dw.len_tup | with_reducible exact Dw.eq_int | with_reducible exact Dw.ne_int | with_reducible exact Dw.eq_str | with_reducible exact Dw.ne_str | with_reducible exact Dw.eq_bl | with_reducible exact Dw.ne_bl | with_reducible exact Dw.lt_int' | with_reducible exact Dw.lt_str' | with_reducible exact Dw.le_int' | with_reducible exact Dw.gt_int' | with_reducible exact Dw.ge_int' | with_reducible exact Dw.add_int' | with_reducible exact Dw.sub_int' | with_reducible exact Dw.neg_int' | with_reducible exact Dw.ord_str | with_reducible exact Dw.int_int | with_reducible exact Dw.int_bl | with_reducible exact Dw.list_lst | with_reducible exact Dw.list_tup | with_reducible exact Dw.tup_lst | with_reducible exact Dw.tup_tup | with_reducible exact Dw.it_lst | with_reducible exact Dw.it_tup | with_reducible exact Dw.it_str | ((with_reducible apply Dw.ev_var); exact rfl) | ((with_reducible apply Dw.ev_varO); exact rfl) | ((with_reducible apply Dw.pk_cv); exact rfl) | ((with_reducible apply Dw.fs_ok); exact rfl) | ((with_reducible apply Dw.gE); exact rfl) | with_reducible apply Dw.ev_two | with_reducible apply Dw.ev_one | with_reducible apply Dw.ev_cons | with_reducible apply Dw.pks_cons | with_reducible apply Dw.ev_callE | with_reducible apply Dw.ev_isi | with_reducible apply Dw.frzs_cons | with_reducible apply Dw.ev_tup | with_reducible apply Dw.ev_lst | with_reducible apply Dw.ev_not | with_reducible apply Dw.ev_met | with_reducible apply Dw.ev_mut | with_reducible apply Dw.ev_ret | with_reducible apply Dw.ev_expr | with_reducible apply Dw.ev_asg | with_reducible apply Dw.ev_args | with_reducible apply Dw.ev_src | with_reducible apply Dw.ev_callD | with_reducible apply Dw.mapd_c | with_reducible apply Dw.mapd_d | with_reducible apply Dw.set_s | with_reducible apply Dw.st_d | with_reducible apply Dw.st_own | with_reducible apply Dw.st_cv | with_reducible apply Dw.frz_cv | ((with_reducible apply Dw.len_str); assumption) | ((with_reducible apply Dw.get_str) <;> assumption) | with_reducible assumption | ((with_reducible show Dw.okI _ = true); exact rfl))
theorem filt_le {c : Nat → Bool} {n L : Nat} (hn : n ≤ L) (h : ∀ k, k ≤ L → (c k = true ↔ k ≤ n)) : (List.range (L + 1)).filter c = List.range (n + 1) := by
  rw [show L + 1 = (n + 1) + (L - n) by omega, List.range_add, List.filter_append]
  rw [List.filter_eq_self.mpr fun k hk => by
    rw [List.mem_range] at hk
    exact (h k (by omega)).mpr (by omega)]
  rw [List.filter_eq_nil_iff.mpr fun k hk => by
    obtain ⟨i, hi, rfl⟩ := List.mem_map.mp hk
    rw [List.mem_range] at hi
    intro g
    have := (h _ (by omega)).mp g
    omega]
  exact List.append_nil _
theorem ev_startX {p t : List Nat} (hp : p.length ≤ 900) : ∃ o, m_start_lengths [.d (.str p)] = some (.ok (.d (.tup (dI (Ls p t 0)))) o) := by
  have hs : (100000 : Nat) ≤ sizeLine := by decide
  have hpl : p.length ≤ sizeLine := by omega
  have key : Ls p t 0 = (List.range ((p.takeWhile (· == 42)).length + 1)).map fun i : Nat => (i : Int) := by
    show List.map _ _ = _
    rw [filt_le (c := fun k => Mb p t k 0) (n := (p.takeWhile (· == 42)).length) (L := p.length) (List.takeWhile_sublist _).length_le fun k hk => by rw [M0, tw_spec p k hk]]
  generalize hn : (p.takeWhile (· == 42)).length = n at key
  have hnp : n ≤ p.length := by rw [← hn]; exact (List.takeWhile_sublist _).length_le
  have hcl : (cutTop p [42]).length = p.length - n := by
    unfold cutTop
    rw [conts42, List.length_drop, hn]
  have l1 : textM lstripL (.str p) [.str [42]] = some (.d (.str (cutTop p [42]))) := if_pos hpl
  have hcs : (cutTop p [42]).length ≤ sizeLine := by omega
  have hsub : subD (.int p.length) (.int (cutTop p [42]).length) = some (.d (.int n)) := by
    rw [Dw.sub_int', hcl]
    rw [show (p.length : Int) - ((p.length - n : Nat) : Int) = n by omega]
  rw [key]
  refine ⟨[.d (.str p)], defM_rt (a := .d (.tup (dI ((List.range (n + 1)).map fun i : Nat => (i : Int))))) (env := [.d (.str p), .d (.int n)]) [.d (.str p), .un] rfl rfl ?_ rfl rfl⟩
  unfold b_start_lengths
  refine ev_seq2 (env1 := [.d (.str p), .d (.int n)]) (by repeat' (first | with_reducible exact l1 | with_reducible exact hsub | with_reducible exact Dw.ty_str | with_reducible exact Dw.ty_lst | with_reducible exact Dw.lst_eq | with_reducible exact Dw.set_z | with_reducible exact Dw.ret_d | with_reducible exact Dw.ret_own | with_reducible exact Dw.mapd_nn | with_reducible exact Dw.ev_const | with_reducible exact Dw.ev_nil | with_reducible exact Dw.pk_d | with_reducible exact Dw.pk_own | with_reducible exact Dw.pks_nil | with_reducible exact Dw.frz_d | with_reducible exact Dw.frz_own | with_reducible exact Dw.frzs_nil | with_reducible exact Dw.tru_bl | with_reducible exact Dw.ev_skip | with_reducible exact Dw.len_lst | with_reducible exact Dw.len_tup | with_reducible exact Dw.eq_int | with_reducible exact Dw.ne_int | with_reducible exact Dw.eq_str | with_reducible exact Dw.ne_str | with_reducible exact Dw.eq_bl | with_reducible exact Dw.ne_bl | with_reducible exact Dw.lt_int' | with_reducible exact Dw.lt_str' | with_reducible exact Dw.le_int' | with_reducible exact Dw.gt_int' | with_reducible exact Dw.ge_int' | with_reducible exact Dw.add_int' | with_reducible exact Dw.sub_int' | with_reducible exact Dw.neg_int' | with_reducible exact Dw.ord_str | with_reducible exact Dw.int_int | with_reducible exact Dw.int_bl | with_reducible exact Dw.list_lst | with_reducible exact Dw.list_tup | with_reducible exact Dw.tup_lst | with_reducible exact Dw.tup_tup | with_reducible exact Dw.it_lst | with_reducible exact Dw.it_tup | with_reducible exact Dw.it_str | ((with_reducible apply Dw.ev_var); exact rfl) | ((with_reducible apply Dw.ev_varO); exact rfl) | ((with_reducible apply Dw.pk_cv); exact rfl) | ((with_reducible apply Dw.fs_ok); exact rfl) | ((with_reducible apply Dw.gE); exact rfl) | with_reducible apply Dw.ev_two | with_reducible apply Dw.ev_one | with_reducible apply Dw.ev_cons | with_reducible apply Dw.pks_cons | with_reducible apply Dw.ev_callE | with_reducible apply Dw.ev_isi | with_reducible apply Dw.frzs_cons | with_reducible apply Dw.ev_tup | with_reducible apply Dw.ev_lst | with_reducible apply Dw.ev_not | with_reducible apply Dw.ev_met | with_reducible apply Dw.ev_mut | with_reducible apply Dw.ev_ret | with_reducible apply Dw.ev_expr | with_reducible apply Dw.ev_asg | with_reducible apply Dw.ev_args | with_reducible apply Dw.ev_src | with_reducible apply Dw.ev_callD | with_reducible apply Dw.mapd_c | with_reducible apply Dw.mapd_d | with_reducible apply Dw.set_s | with_reducible apply Dw.st_d | with_reducible apply Dw.st_own | with_reducible apply Dw.st_cv | with_reducible apply Dw.frz_cv | ((with_reducible apply Dw.len_str); assumption) | ((with_reducible apply Dw.get_str) <;> assumption) | with_reducible assumption | ((with_reducible show Dw.okI _ = true); exact rfl))) (ev_ret ?_)
  have e1 : two (op2 addD) (varE 1) (constE (.int 1)) [.d (.str p), .d (.int n)] = some (.ok (.d (.int ((n : Int) + 1))) [.d (.str p), .d (.int n)]) := by repeat' (first  | with_reducible exact Dw.ty_str | with_reducible exact Dw.ty_lst | with_reducible exact Dw.lst_eq | with_reducible exact Dw.set_z | with_reducible exact Dw.ret_d | with_reducible exact Dw.ret_own | with_reducible exact Dw.mapd_nn | with_reducible exact Dw.ev_const | with_reducible exact Dw.ev_nil | with_reducible exact Dw.pk_d | with_reducible exact Dw.pk_own | with_reducible exact Dw.pks_nil | with_reducible exact Dw.frz_d | with_reducible exact Dw.frz_own | with_reducible exact Dw.frzs_nil | with_reducible exact Dw.tru_bl | with_reducible exact Dw.ev_skip | with_reducible exact Dw.len_lst | with_reducible exact Dw.len_tup | with_reducible exact Dw.eq_int | with_reducible exact Dw.ne_int | with_reducible exact Dw.eq_str | with_reducible exact Dw.ne_str | with_reducible exact Dw.eq_bl | with_reducible exact Dw.ne_bl | with_reducible exact Dw.lt_int' | with_reducible exact Dw.lt_str' | with_reducible exact Dw.le_int' | with_reducible exact Dw.gt_int' | with_reducible exact Dw.ge_int' | with_reducible exact Dw.add_int' | with_reducible exact Dw.sub_int' | with_reducible exact Dw.neg_int' | with_reducible exact Dw.ord_str | with_reducible exact Dw.int_int | with_reducible exact Dw.int_bl | with_reducible exact Dw.list_lst | with_reducible exact Dw.list_tup | with_reducible exact Dw.tup_lst | with_reducible exact Dw.tup_tup | with_reducible exact Dw.it_lst | with_reducible exact Dw.it_tup | with_reducible exact Dw.it_str | ((with_reducible apply Dw.ev_var); exact rfl) | ((with_reducible apply Dw.ev_varO); exact rfl) | ((with_reducible apply Dw.pk_cv); exact rfl) | ((with_reducible apply Dw.fs_ok); exact rfl) | ((with_reducible apply Dw.gE); exact rfl) | with_reducible apply Dw.ev_two | with_reducible apply Dw.ev_one | with_reducible apply Dw.ev_cons | with_reducible apply Dw.pks_cons | with_reducible apply Dw.ev_callE | with_reducible apply Dw.ev_isi | with_reducible apply Dw.frzs_cons | with_reducible apply Dw.ev_tup | with_reducible apply Dw.ev_lst | with_reducible apply Dw.ev_not | with_reducible apply Dw.ev_met | with_reducible apply Dw.ev_mut | with_reducible apply Dw.ev_ret | with_reducible apply Dw.ev_expr | with_reducible apply Dw.ev_asg | with_reducible apply Dw.ev_args | with_reducible apply Dw.ev_src | with_reducible apply Dw.ev_callD | with_reducible apply Dw.mapd_c | with_reducible apply Dw.mapd_d | with_reducible apply Dw.set_s | with_reducible apply Dw.st_d | with_reducible apply Dw.st_own | with_reducible apply Dw.st_cv | with_reducible apply Dw.frz_cv | ((with_reducible apply Dw.len_str); assumption) | ((with_reducible apply Dw.get_str) <;> assumption) | with_reducible assumption | ((with_reducible show Dw.okI _ = true); exact rfl))
  unfold rgD
  rw [e1, bindE_ok]
  show (if okP (-(2 ^ 62) ≤ (n : Int) + 1 ∧ (n : Int) + 1 < 2 ^ 62 ∧ ((n : Int) + 1).toNat ≤ 100000) = true then _ else _) = _
  rw [if_pos (okP_iff.mpr ⟨by omega, by omega, by omega⟩)]
  have e2 : ((n : Int) + 1).toNat = n + 1 := by omega
  rw [e2]
  unfold tupRV dI
  rw [List.map_map]
  rfl
def St (ps : List (List Nat)) (t : List Nat) (j : Nat) : D := .tup (ps.map fun p => .tup (dI (Ls p t j)))
def stF (t : List Nat) (j : Nat) : D → D
  | .str p => .tup (dI (Ls p t j))
  | x => x
def nxF (t : List Nat) (j : Nat) : D → D
  | .tup [.str p, _] => .tup (dI (Ls p t j))
  | x => x
theorem ev_start_state {ps : List (List Nat)} {t : List Nat} (h : okPs ps) : ∃ o, m_start_state [.d (.lst (sL ps))] = some (.ok (.d (St ps t 0)) o) := by
  have cp : compD [1] (.nm 1) none e_start_state_1 (sL ps) [] [.d (.lst (sL ps)), .un] = some ([] ++ (sL ps).map (stF t 0), [.d (.lst (sL ps)), .un]) := comp_run (stF t 0) (sL ps) [] (fun x hx => by
    obtain ⟨p, hp, rfl⟩ := List.mem_map.mp hx
    obtain ⟨o, e⟩ := ev_startX (p := p) (t := t) (by have := (h.2 p hp).1; omega)
    refine ⟨[.d (.lst (sL ps)), .d (.str p)], .d (.tup (dI (Ls p t 0))), [.d (.lst (sL ps)), .d (.str p)], [.d (.lst (sL ps)), .d (.str p)], rfl, ?_, rfl, rfl⟩
    unfold e_start_state_1
    repeat' (first | with_reducible exact e | with_reducible exact Dw.ty_str | with_reducible exact Dw.ty_lst | with_reducible exact Dw.lst_eq | with_reducible exact Dw.set_z | with_reducible exact Dw.ret_d | with_reducible exact Dw.ret_own | with_reducible exact Dw.mapd_nn | with_reducible exact Dw.ev_const | with_reducible exact Dw.ev_nil | with_reducible exact Dw.pk_d | with_reducible exact Dw.pk_own | with_reducible exact Dw.pks_nil | with_reducible exact Dw.frz_d | with_reducible exact Dw.frz_own | with_reducible exact Dw.frzs_nil | with_reducible exact Dw.tru_bl | with_reducible exact Dw.ev_skip | with_reducible exact Dw.len_lst | with_reducible exact Dw.len_tup | with_reducible exact Dw.eq_int | with_reducible exact Dw.ne_int | with_reducible exact Dw.eq_str | with_reducible exact Dw.ne_str | with_reducible exact Dw.eq_bl | with_reducible exact Dw.ne_bl | with_reducible exact Dw.lt_int' | with_reducible exact Dw.lt_str' | with_reducible exact Dw.le_int' | with_reducible exact Dw.gt_int' | with_reducible exact Dw.ge_int' | with_reducible exact Dw.add_int' | with_reducible exact Dw.sub_int' | with_reducible exact Dw.neg_int' | with_reducible exact Dw.ord_str | with_reducible exact Dw.int_int | with_reducible exact Dw.int_bl | with_reducible exact Dw.list_lst | with_reducible exact Dw.list_tup | with_reducible exact Dw.tup_lst | with_reducible exact Dw.tup_tup | with_reducible exact Dw.it_lst | with_reducible exact Dw.it_tup | with_reducible exact Dw.it_str | ((with_reducible apply Dw.ev_var); exact rfl) | ((with_reducible apply Dw.ev_varO); exact rfl) | ((with_reducible apply Dw.pk_cv); exact rfl) | ((with_reducible apply Dw.fs_ok); exact rfl) | ((with_reducible apply Dw.gE); exact rfl) | with_reducible apply Dw.ev_two | with_reducible apply Dw.ev_one | with_reducible apply Dw.ev_cons | with_reducible apply Dw.pks_cons | with_reducible apply Dw.ev_callE | with_reducible apply Dw.ev_isi | with_reducible apply Dw.frzs_cons | with_reducible apply Dw.ev_tup | with_reducible apply Dw.ev_lst | with_reducible apply Dw.ev_not | with_reducible apply Dw.ev_met | with_reducible apply Dw.ev_mut | with_reducible apply Dw.ev_ret | with_reducible apply Dw.ev_expr | with_reducible apply Dw.ev_asg | with_reducible apply Dw.ev_args | with_reducible apply Dw.ev_src | with_reducible apply Dw.ev_callD | with_reducible apply Dw.mapd_c | with_reducible apply Dw.mapd_d | with_reducible apply Dw.set_s | with_reducible apply Dw.st_d | with_reducible apply Dw.st_own | with_reducible apply Dw.st_cv | with_reducible apply Dw.frz_cv | ((with_reducible apply Dw.len_str); assumption) | ((with_reducible apply Dw.get_str) <;> assumption) | with_reducible assumption | ((with_reducible show Dw.okI _ = true); exact rfl))) (by have := h.1; simp [sL]; omega)
  have e1 : compE [1] (srcE (varE 0)) (.nm 1) none e_start_state_1 [.d (.lst (sL ps)), .un] = some (.ok (.own (.lst ((sL ps).map (stF t 0)))) [.d (.lst (sL ps)), .un]) :=
    ev_comp (xs := sL ps) (env1 := [.d (.lst (sL ps)), .un]) (env2 := [.d (.lst (sL ps)), .un]) (by repeat' (first  | with_reducible exact Dw.ty_str | with_reducible exact Dw.ty_lst | with_reducible exact Dw.lst_eq | with_reducible exact Dw.set_z | with_reducible exact Dw.ret_d | with_reducible exact Dw.ret_own | with_reducible exact Dw.mapd_nn | with_reducible exact Dw.ev_const | with_reducible exact Dw.ev_nil | with_reducible exact Dw.pk_d | with_reducible exact Dw.pk_own | with_reducible exact Dw.pks_nil | with_reducible exact Dw.frz_d | with_reducible exact Dw.frz_own | with_reducible exact Dw.frzs_nil | with_reducible exact Dw.tru_bl | with_reducible exact Dw.ev_skip | with_reducible exact Dw.len_lst | with_reducible exact Dw.len_tup | with_reducible exact Dw.eq_int | with_reducible exact Dw.ne_int | with_reducible exact Dw.eq_str | with_reducible exact Dw.ne_str | with_reducible exact Dw.eq_bl | with_reducible exact Dw.ne_bl | with_reducible exact Dw.lt_int' | with_reducible exact Dw.lt_str' | with_reducible exact Dw.le_int' | with_reducible exact Dw.gt_int' | with_reducible exact Dw.ge_int' | with_reducible exact Dw.add_int' | with_reducible exact Dw.sub_int' | with_reducible exact Dw.neg_int' | with_reducible exact Dw.ord_str | with_reducible exact Dw.int_int | with_reducible exact Dw.int_bl | with_reducible exact Dw.list_lst | with_reducible exact Dw.list_tup | with_reducible exact Dw.tup_lst | with_reducible exact Dw.tup_tup | with_reducible exact Dw.it_lst | with_reducible exact Dw.it_tup | with_reducible exact Dw.it_str | ((with_reducible apply Dw.ev_var); exact rfl) | ((with_reducible apply Dw.ev_varO); exact rfl) | ((with_reducible apply Dw.pk_cv); exact rfl) | ((with_reducible apply Dw.fs_ok); exact rfl) | ((with_reducible apply Dw.gE); exact rfl) | with_reducible apply Dw.ev_two | with_reducible apply Dw.ev_one | with_reducible apply Dw.ev_cons | with_reducible apply Dw.pks_cons | with_reducible apply Dw.ev_callE | with_reducible apply Dw.ev_isi | with_reducible apply Dw.frzs_cons | with_reducible apply Dw.ev_tup | with_reducible apply Dw.ev_lst | with_reducible apply Dw.ev_not | with_reducible apply Dw.ev_met | with_reducible apply Dw.ev_mut | with_reducible apply Dw.ev_ret | with_reducible apply Dw.ev_expr | with_reducible apply Dw.ev_asg | with_reducible apply Dw.ev_args | with_reducible apply Dw.ev_src | with_reducible apply Dw.ev_callD | with_reducible apply Dw.mapd_c | with_reducible apply Dw.mapd_d | with_reducible apply Dw.set_s | with_reducible apply Dw.st_d | with_reducible apply Dw.st_own | with_reducible apply Dw.st_cv | with_reducible apply Dw.frz_cv | ((with_reducible apply Dw.len_str); assumption) | ((with_reducible apply Dw.get_str) <;> assumption) | with_reducible assumption | ((with_reducible show Dw.okI _ = true); exact rfl))) cp rfl
  have e2 : D.tup ((sL ps).map (stF t 0)) = St ps t 0 := by
    unfold St sL
    rw [List.map_map]
    rfl
  refine ⟨[.d (.lst (sL ps))], defM_rt (a := .d (St ps t 0)) (env := [.d (.lst (sL ps)), .un]) [.d (.lst (sL ps)), .un] rfl rfl ?_ rfl rfl⟩
  rw [← e2]
  unfold b_start_state
  repeat' (first | with_reducible exact e1 | with_reducible exact Dw.ty_str | with_reducible exact Dw.ty_lst | with_reducible exact Dw.lst_eq | with_reducible exact Dw.set_z | with_reducible exact Dw.ret_d | with_reducible exact Dw.ret_own | with_reducible exact Dw.mapd_nn | with_reducible exact Dw.ev_const | with_reducible exact Dw.ev_nil | with_reducible exact Dw.pk_d | with_reducible exact Dw.pk_own | with_reducible exact Dw.pks_nil | with_reducible exact Dw.frz_d | with_reducible exact Dw.frz_own | with_reducible exact Dw.frzs_nil | with_reducible exact Dw.tru_bl | with_reducible exact Dw.ev_skip | with_reducible exact Dw.len_lst | with_reducible exact Dw.len_tup | with_reducible exact Dw.eq_int | with_reducible exact Dw.ne_int | with_reducible exact Dw.eq_str | with_reducible exact Dw.ne_str | with_reducible exact Dw.eq_bl | with_reducible exact Dw.ne_bl | with_reducible exact Dw.lt_int' | with_reducible exact Dw.lt_str' | with_reducible exact Dw.le_int' | with_reducible exact Dw.gt_int' | with_reducible exact Dw.ge_int' | with_reducible exact Dw.add_int' | with_reducible exact Dw.sub_int' | with_reducible exact Dw.neg_int' | with_reducible exact Dw.ord_str | with_reducible exact Dw.int_int | with_reducible exact Dw.int_bl | with_reducible exact Dw.list_lst | with_reducible exact Dw.list_tup | with_reducible exact Dw.tup_lst | with_reducible exact Dw.tup_tup | with_reducible exact Dw.it_lst | with_reducible exact Dw.it_tup | with_reducible exact Dw.it_str | ((with_reducible apply Dw.ev_var); exact rfl) | ((with_reducible apply Dw.ev_varO); exact rfl) | ((with_reducible apply Dw.pk_cv); exact rfl) | ((with_reducible apply Dw.fs_ok); exact rfl) | ((with_reducible apply Dw.gE); exact rfl) | with_reducible apply Dw.ev_two | with_reducible apply Dw.ev_one | with_reducible apply Dw.ev_cons | with_reducible apply Dw.pks_cons | with_reducible apply Dw.ev_callE | with_reducible apply Dw.ev_isi | with_reducible apply Dw.frzs_cons | with_reducible apply Dw.ev_tup | with_reducible apply Dw.ev_lst | with_reducible apply Dw.ev_not | with_reducible apply Dw.ev_met | with_reducible apply Dw.ev_mut | with_reducible apply Dw.ev_ret | with_reducible apply Dw.ev_expr | with_reducible apply Dw.ev_asg | with_reducible apply Dw.ev_args | with_reducible apply Dw.ev_src | with_reducible apply Dw.ev_callD | with_reducible apply Dw.mapd_c | with_reducible apply Dw.mapd_d | with_reducible apply Dw.set_s | with_reducible apply Dw.st_d | with_reducible apply Dw.st_own | with_reducible apply Dw.st_cv | with_reducible apply Dw.frz_cv | ((with_reducible apply Dw.len_str); assumption) | ((with_reducible apply Dw.get_str) <;> assumption) | with_reducible assumption | ((with_reducible show Dw.okI _ = true); exact rfl))
theorem zipL_map {α : Type} (f g : α → D) : ∀ xs : List α, zipL (xs.map f) (xs.map g) = xs.map fun x => .tup [f x, g x]
  | [] => rfl
  | x :: xs => by rw [List.map_cons, List.map_cons, zipL, zipL_map f g xs]; rfl
theorem ev_next_state {ps : List (List Nat)} {t : List Nat} {j : Nat} (h : okPs ps) : ∃ o, m_next_state [.d (.lst (sL ps)), .d (St ps t j), .d (.str [t.getD j 0])] = some (.ok (.d (St ps t (j + 1))) o) := by
  generalize hy : t.getD j 0 = y
  have cp : compD [3, 4] (.two 3 4) none e_next_state_1 (ps.map fun p => .tup [.str p, .tup (dI (Ls p t j))]) [] [.d (.lst (sL ps)), .d (St ps t j), .d (.str [y]), .un, .un] = some ([] ++ (ps.map fun p => .tup [.str p, .tup (dI (Ls p t j))]).map (nxF t (j + 1)), [.d (.lst (sL ps)), .d (St ps t j), .d (.str [y]), .un, .un]) :=
    comp_run (nxF t (j + 1)) _ [] (fun x hx => by
      obtain ⟨p, hp, rfl⟩ := List.mem_map.mp hx
      obtain ⟨o, e⟩ := ev_nextX (p := p) (t := t) (j := j) (by have := (h.2 p hp).1; omega)
      rw [hy] at e
      refine ⟨[.d (.lst (sL ps)), .d (St ps t j), .d (.str [y]), .d (.str p), .d (.tup (dI (Ls p t j)))], .d (.tup (dI (Ls p t (j + 1)))), [.d (.lst (sL ps)), .d (St ps t j), .d (.str [y]), .d (.str p), .d (.tup (dI (Ls p t j)))], [.d (.lst (sL ps)), .d (St ps t j), .d (.str [y]), .d (.str p), .d (.tup (dI (Ls p t j)))], rfl, ?_, rfl, rfl⟩
      unfold e_next_state_1
      repeat' (first | with_reducible exact e | with_reducible exact Dw.ty_str | with_reducible exact Dw.ty_lst | with_reducible exact Dw.lst_eq | with_reducible exact Dw.set_z | with_reducible exact Dw.ret_d | with_reducible exact Dw.ret_own | with_reducible exact Dw.mapd_nn | with_reducible exact Dw.ev_const | with_reducible exact Dw.ev_nil | with_reducible exact Dw.pk_d | with_reducible exact Dw.pk_own | with_reducible exact Dw.pks_nil | with_reducible exact Dw.frz_d | with_reducible exact Dw.frz_own | with_reducible exact Dw.frzs_nil | with_reducible exact Dw.tru_bl | with_reducible exact Dw.ev_skip | with_reducible exact Dw.len_lst | with_reducible exact Dw.len_tup | with_reducible exact Dw.eq_int | with_reducible exact Dw.ne_int | with_reducible exact Dw.eq_str | with_reducible exact Dw.ne_str | with_reducible exact Dw.eq_bl | with_reducible exact Dw.ne_bl | with_reducible exact Dw.lt_int' | with_reducible exact Dw.lt_str' | with_reducible exact Dw.le_int' | with_reducible exact Dw.gt_int' | with_reducible exact Dw.ge_int' | with_reducible exact Dw.add_int' | with_reducible exact Dw.sub_int' | with_reducible exact Dw.neg_int' | with_reducible exact Dw.ord_str | with_reducible exact Dw.int_int | with_reducible exact Dw.int_bl | with_reducible exact Dw.list_lst | with_reducible exact Dw.list_tup | with_reducible exact Dw.tup_lst | with_reducible exact Dw.tup_tup | with_reducible exact Dw.it_lst | with_reducible exact Dw.it_tup | with_reducible exact Dw.it_str | ((with_reducible apply Dw.ev_var); exact rfl) | ((with_reducible apply Dw.ev_varO); exact rfl) | ((with_reducible apply Dw.pk_cv); exact rfl) | ((with_reducible apply Dw.fs_ok); exact rfl) | ((with_reducible apply Dw.gE); exact rfl) | with_reducible apply Dw.ev_two | with_reducible apply Dw.ev_one | with_reducible apply Dw.ev_cons | with_reducible apply Dw.pks_cons | with_reducible apply Dw.ev_callE | with_reducible apply Dw.ev_isi | with_reducible apply Dw.frzs_cons | with_reducible apply Dw.ev_tup | with_reducible apply Dw.ev_lst | with_reducible apply Dw.ev_not | with_reducible apply Dw.ev_met | with_reducible apply Dw.ev_mut | with_reducible apply Dw.ev_ret | with_reducible apply Dw.ev_expr | with_reducible apply Dw.ev_asg | with_reducible apply Dw.ev_args | with_reducible apply Dw.ev_src | with_reducible apply Dw.ev_callD | with_reducible apply Dw.mapd_c | with_reducible apply Dw.mapd_d | with_reducible apply Dw.set_s | with_reducible apply Dw.st_d | with_reducible apply Dw.st_own | with_reducible apply Dw.st_cv | with_reducible apply Dw.frz_cv | ((with_reducible apply Dw.len_str); assumption) | ((with_reducible apply Dw.get_str) <;> assumption) | with_reducible assumption | ((with_reducible show Dw.okI _ = true); exact rfl))) (by have := h.1; simp; omega)
  have e1 : compE [3, 4] (zipE (consA (varE 0) (consA (varE 1) nilA))) (.two 3 4) none e_next_state_1 [.d (.lst (sL ps)), .d (St ps t j), .d (.str [y]), .un, .un] = some (.ok (.own (.lst ((ps.map fun p => .tup [.str p, .tup (dI (Ls p t j))]).map (nxF t (j + 1))))) [.d (.lst (sL ps)), .d (St ps t j), .d (.str [y]), .un, .un]) := by
    refine ev_comp (env1 := [.d (.lst (sL ps)), .d (St ps t j), .d (.str [y]), .un, .un]) (env2 := [.d (.lst (sL ps)), .d (St ps t j), .d (.str [y]), .un, .un]) ?_ cp rfl
    rw [← zipL_map D.str (fun p => .tup (dI (Ls p t j))) ps]
    exact ev_zip (as := [.d (.lst (sL ps)), .d (St ps t j)]) (env1 := [.d (.lst (sL ps)), .d (St ps t j), .d (.str [y]), .un, .un]) (by repeat' (first  | with_reducible exact Dw.ty_str | with_reducible exact Dw.ty_lst | with_reducible exact Dw.lst_eq | with_reducible exact Dw.set_z | with_reducible exact Dw.ret_d | with_reducible exact Dw.ret_own | with_reducible exact Dw.mapd_nn | with_reducible exact Dw.ev_const | with_reducible exact Dw.ev_nil | with_reducible exact Dw.pk_d | with_reducible exact Dw.pk_own | with_reducible exact Dw.pks_nil | with_reducible exact Dw.frz_d | with_reducible exact Dw.frz_own | with_reducible exact Dw.frzs_nil | with_reducible exact Dw.tru_bl | with_reducible exact Dw.ev_skip | with_reducible exact Dw.len_lst | with_reducible exact Dw.len_tup | with_reducible exact Dw.eq_int | with_reducible exact Dw.ne_int | with_reducible exact Dw.eq_str | with_reducible exact Dw.ne_str | with_reducible exact Dw.eq_bl | with_reducible exact Dw.ne_bl | with_reducible exact Dw.lt_int' | with_reducible exact Dw.lt_str' | with_reducible exact Dw.le_int' | with_reducible exact Dw.gt_int' | with_reducible exact Dw.ge_int' | with_reducible exact Dw.add_int' | with_reducible exact Dw.sub_int' | with_reducible exact Dw.neg_int' | with_reducible exact Dw.ord_str | with_reducible exact Dw.int_int | with_reducible exact Dw.int_bl | with_reducible exact Dw.list_lst | with_reducible exact Dw.list_tup | with_reducible exact Dw.tup_lst | with_reducible exact Dw.tup_tup | with_reducible exact Dw.it_lst | with_reducible exact Dw.it_tup | with_reducible exact Dw.it_str | ((with_reducible apply Dw.ev_var); exact rfl) | ((with_reducible apply Dw.ev_varO); exact rfl) | ((with_reducible apply Dw.pk_cv); exact rfl) | ((with_reducible apply Dw.fs_ok); exact rfl) | ((with_reducible apply Dw.gE); exact rfl) | with_reducible apply Dw.ev_two | with_reducible apply Dw.ev_one | with_reducible apply Dw.ev_cons | with_reducible apply Dw.pks_cons | with_reducible apply Dw.ev_callE | with_reducible apply Dw.ev_isi | with_reducible apply Dw.frzs_cons | with_reducible apply Dw.ev_tup | with_reducible apply Dw.ev_lst | with_reducible apply Dw.ev_not | with_reducible apply Dw.ev_met | with_reducible apply Dw.ev_mut | with_reducible apply Dw.ev_ret | with_reducible apply Dw.ev_expr | with_reducible apply Dw.ev_asg | with_reducible apply Dw.ev_args | with_reducible apply Dw.ev_src | with_reducible apply Dw.ev_callD | with_reducible apply Dw.mapd_c | with_reducible apply Dw.mapd_d | with_reducible apply Dw.set_s | with_reducible apply Dw.st_d | with_reducible apply Dw.st_own | with_reducible apply Dw.st_cv | with_reducible apply Dw.frz_cv | ((with_reducible apply Dw.len_str); assumption) | ((with_reducible apply Dw.get_str) <;> assumption) | with_reducible assumption | ((with_reducible show Dw.okI _ = true); exact rfl))) rfl rfl rfl
  have e2 : D.tup ((ps.map fun p => .tup [.str p, .tup (dI (Ls p t j))]).map (nxF t (j + 1))) = St ps t (j + 1) := by
    unfold St
    rw [List.map_map]
    rfl
  refine ⟨[.d (.lst (sL ps)), .d (St ps t j), .d (.str [y])], defM_rt (a := .d (St ps t (j + 1))) (env := [.d (.lst (sL ps)), .d (St ps t j), .d (.str [y]), .un, .un]) [.d (.lst (sL ps)), .d (St ps t j), .d (.str [y]), .un, .un] rfl rfl ?_ rfl rfl⟩
  rw [← e2]
  unfold b_next_state
  repeat' (first | with_reducible exact e1 | with_reducible exact Dw.ty_str | with_reducible exact Dw.ty_lst | with_reducible exact Dw.lst_eq | with_reducible exact Dw.set_z | with_reducible exact Dw.ret_d | with_reducible exact Dw.ret_own | with_reducible exact Dw.mapd_nn | with_reducible exact Dw.ev_const | with_reducible exact Dw.ev_nil | with_reducible exact Dw.pk_d | with_reducible exact Dw.pk_own | with_reducible exact Dw.pks_nil | with_reducible exact Dw.frz_d | with_reducible exact Dw.frz_own | with_reducible exact Dw.frzs_nil | with_reducible exact Dw.tru_bl | with_reducible exact Dw.ev_skip | with_reducible exact Dw.len_lst | with_reducible exact Dw.len_tup | with_reducible exact Dw.eq_int | with_reducible exact Dw.ne_int | with_reducible exact Dw.eq_str | with_reducible exact Dw.ne_str | with_reducible exact Dw.eq_bl | with_reducible exact Dw.ne_bl | with_reducible exact Dw.lt_int' | with_reducible exact Dw.lt_str' | with_reducible exact Dw.le_int' | with_reducible exact Dw.gt_int' | with_reducible exact Dw.ge_int' | with_reducible exact Dw.add_int' | with_reducible exact Dw.sub_int' | with_reducible exact Dw.neg_int' | with_reducible exact Dw.ord_str | with_reducible exact Dw.int_int | with_reducible exact Dw.int_bl | with_reducible exact Dw.list_lst | with_reducible exact Dw.list_tup | with_reducible exact Dw.tup_lst | with_reducible exact Dw.tup_tup | with_reducible exact Dw.it_lst | with_reducible exact Dw.it_tup | with_reducible exact Dw.it_str | ((with_reducible apply Dw.ev_var); exact rfl) | ((with_reducible apply Dw.ev_varO); exact rfl) | ((with_reducible apply Dw.pk_cv); exact rfl) | ((with_reducible apply Dw.fs_ok); exact rfl) | ((with_reducible apply Dw.gE); exact rfl) | with_reducible apply Dw.ev_two | with_reducible apply Dw.ev_one | with_reducible apply Dw.ev_cons | with_reducible apply Dw.pks_cons | with_reducible apply Dw.ev_callE | with_reducible apply Dw.ev_isi | with_reducible apply Dw.frzs_cons | with_reducible apply Dw.ev_tup | with_reducible apply Dw.ev_lst | with_reducible apply Dw.ev_not | with_reducible apply Dw.ev_met | with_reducible apply Dw.ev_mut | with_reducible apply Dw.ev_ret | with_reducible apply Dw.ev_expr | with_reducible apply Dw.ev_asg | with_reducible apply Dw.ev_args | with_reducible apply Dw.ev_src | with_reducible apply Dw.ev_callD | with_reducible apply Dw.mapd_c | with_reducible apply Dw.mapd_d | with_reducible apply Dw.set_s | with_reducible apply Dw.st_d | with_reducible apply Dw.st_own | with_reducible apply Dw.st_cv | with_reducible apply Dw.frz_cv | ((with_reducible apply Dw.len_str); assumption) | ((with_reducible apply Dw.get_str) <;> assumption) | with_reducible assumption | ((with_reducible show Dw.okI _ = true); exact rfl))
end
section
abbrev Qs := List (List Int)
def qs (ps : List (List Nat)) (t : List Nat) : Qs := ps.map fun p => Ls p t t.length
def eQ (s : Qs) : D := .tup (s.map fun l => .tup (dI l))
theorem eQ_St {ps : List (List Nat)} {t : List Nat} : eQ (qs ps t) = St ps t t.length := by
  unfold eQ qs St
  rw [List.map_map]
  rfl
/-- the lengths one letter on; st: the stars, m: the signs that the letter fits -/
def nbS (st m : List Bool) (S : List Int) : Nat → Bool
  | 0 => false
  | k + 1 => if st.getD k false = true then nbS st m S k || decide (((k + 1 : Nat) : Int) ∈ S) else decide ((k : Int) ∈ S) && m.getD k false
def nxS (st m : List Bool) (S : List Int) : List Int := ((List.range (st.length + 1)).filter (nbS st m S)).map fun k : Nat => (k : Int)
def stars (p : List Nat) : List Bool := p.map fun a => a == 42
def fits1 (c : Nat) (p : List Nat) : List Bool := p.map fun a => a == 63 || a == c
def nxp (c : Nat) (p : List Nat) (S : List Int) : List Int := nxS (stars p) (fits1 c p) S
theorem getD_mapB {p : List Nat} {f : Nat → Bool} {k : Nat} (h : k < p.length) : (p.map f).getD k false = f (p.getD k 0) := by
  rw [List.getD_eq_getElem?_getD, List.getD_eq_getElem?_getD, List.getElem?_map, List.getElem?_eq_getElem h]
  rfl
theorem nbS_Mb {p t : List Nat} {c : Nat} : ∀ k, k ≤ p.length → nbS (stars p) (fits1 c p) (Ls p t t.length) k = Mb p (t ++ [c]) k (t.length + 1)
  | 0, _ => by rw [nbS, Mb]
  | k + 1, h => by
    have ih := nbS_Mb (p := p) (t := t) (c := c) k (by omega)
    have cg : ∀ i, Mb p (t ++ [c]) i t.length = Mb p t i t.length := fun i => Mb_congr (i + t.length) i t.length (Nat.le_refl _) (fun _ _ => rfl) (fun j hj => by
      rw [List.getD_eq_getElem?_getD, List.getD_eq_getElem?_getD, List.getElem?_append_left hj])
    have gc : (t ++ [c]).getD t.length 0 = c := by rw [List.getD_eq_getElem?_getD, List.getElem?_append_right (Nat.le_refl _), Nat.sub_self]; rfl
    have m1 : decide (((k + 1 : Nat) : Int) ∈ Ls p t t.length) = Mb p t (k + 1) t.length := by rw [Bool.eq_iff_iff, decide_eq_true_eq, Ls_mem h]
    have m2 : decide ((k : Int) ∈ Ls p t t.length) = Mb p t k t.length := by rw [Bool.eq_iff_iff, decide_eq_true_eq, Ls_mem (by omega)]
    rw [nbS, Mb, ih, cg, cg, gc, m1, m2, stars, fits1, getD_mapB (by omega), getD_mapB (by omega)]
theorem nxp_Ls {p t : List Nat} {c : Nat} : nxp c p (Ls p t t.length) = Ls p (t ++ [c]) (t.length + 1) := by
  unfold nxp nxS
  have hl : (stars p).length = p.length := List.length_map ..
  rw [hl]
  show _ = ((List.range (p.length + 1)).filter fun k => Mb p (t ++ [c]) k (t.length + 1)).map fun k : Nat => (k : Int)
  congr 1
  refine List.filter_congr fun k hk => ?_
  rw [List.mem_range] at hk
  exact nbS_Mb k (by omega)
def nxq (ps : List (List Nat)) (c : Nat) (s : Qs) : Qs := List.zipWith (nxp c) ps s
theorem zipW {α β : Type} (f : α → β → β) (g : α → β) : ∀ xs : List α, List.zipWith f xs (xs.map g) = xs.map fun x => f x (g x)
  | [] => rfl
  | x :: xs => by rw [List.map_cons, List.zipWith_cons_cons, zipW f g xs]; rfl
theorem nxq_qs {ps : List (List Nat)} {t : List Nat} {c : Nat} : nxq ps c (qs ps t) = qs ps (t ++ [c]) := by
  unfold nxq qs
  rw [zipW]
  refine List.map_congr_left fun p _ => ?_
  rw [nxp_Ls, List.length_append]
  rfl
theorem fits_un {c c' : Nat} {p : List Nat} (h : c ∉ p) (h' : c' ∉ p) : fits1 c p = fits1 c' p := by
  unfold fits1
  refine List.map_congr_left fun a ha => ?_
  have e1 : (a == c) = false := beq_eq_false_iff_ne.mpr fun z => h (z ▸ ha)
  have e2 : (a == c') = false := beq_eq_false_iff_ne.mpr fun z => h' (z ▸ ha)
  rw [e1, e2]
theorem nxq_un {c c' : Nat} {ps : List (List Nat)} (h : c ∉ ps.flatten) (h' : c' ∉ ps.flatten) (s : Qs) : nxq ps c s = nxq ps c' s := by
  induction ps generalizing s with
  | nil => rfl
  | cons p ps ih =>
    rw [List.flatten_cons, List.mem_append, not_or] at h h'
    cases s with
    | nil => rfl
    | cons x s =>
      show nxp c p x :: nxq ps c s = nxp c' p x :: nxq ps c' s
      rw [ih h.2 h'.2]
      unfold nxp
      rw [fits_un h.1 h'.1]
def bools : Nat → List (List Bool)
  | 0 => [[]]
  | n + 1 => (bools n).flatMap fun b => [true :: b, false :: b]
theorem mem_bools : ∀ b : List Bool, b ∈ bools b.length
  | [] => by simp [bools]
  | true :: b => List.mem_flatMap.mpr ⟨b, mem_bools b, by simp⟩
  | false :: b => List.mem_flatMap.mpr ⟨b, mem_bools b, by simp⟩
def stS (st : List Bool) : List Int := ((List.range ((st.takeWhile fun b => b).length + 1))).map fun k : Nat => (k : Int)
def nubQ {α : Type} [DecidableEq α] : List α → List α
  | [] => []
  | x :: xs => if x ∈ nubQ xs then nubQ xs else x :: nubQ xs
def clo (st : List Bool) : Nat → List (List Int)
  | 0 => nubQ ((bools st.length).map fun m => nxS st m (stS st))
  | n + 1 => nubQ (clo st n ++ (clo st n).flatMap fun S => (bools st.length).map fun m => nxS st m S)
def star4 : List Bool := [true, false, false, false]
def shapes : List (List Bool) := ((List.range 5).flatMap fun n => bools n).filter fun b => decide (b.count true ≤ 1)
def tabY : List (List Bool × List (List Int)) := shapes.map fun st => (st, clo st 4)
def okY (st : List Bool) (Y : List (List Int)) : Bool := ((bools st.length).all fun m => decide (nxS st m (stS st) ∈ Y) && Y.all fun S => decide (nxS st m S ∈ Y)) && decide (Y.length ≤ if st = star4 then 8 else 6)
theorem chk_Y : (tabY.all fun p => okY p.1 p.2) = true := by decide +kernel
theorem chk_4 : (([true, false]).all fun b => decide (((clo star4 4).filter fun S => decide ((2 : Int) ∈ S) == b).length ≤ 4)) = true := by decide +kernel
theorem chk_5 : ((clo star4 4).all fun S => decide ((1 : Int) ∈ S)) = true := by decide +kernel
end
section
theorem nodup_sub {α : Type} [DecidableEq α] : ∀ {X L : List α}, X.Nodup → (∀ x ∈ X, x ∈ L) → X.length ≤ L.length
  | [], _, _, _ => Nat.zero_le _
  | x :: X, L, hn, hs => by
    obtain ⟨L1, L2, rfl⟩ := List.append_of_mem (hs x (List.mem_cons_self ..))
    obtain ⟨h1, h2⟩ := List.nodup_cons.mp hn
    have := nodup_sub (X := X) (L := L1 ++ L2) h2 (fun y hy => by
      have := hs y (List.mem_cons_of_mem _ hy)
      rw [List.mem_append, List.mem_cons] at this
      rw [List.mem_append]
      rcases this with z | z | z
      · exact .inl z
      · exact absurd (z ▸ hy) h1
      · exact .inr z)
    rw [List.length_append] at this
    rw [List.length_cons, List.length_append, List.length_cons]
    omega
theorem count_stars : ∀ p : List Nat, (stars p).count true = p.count 42
  | [] => rfl
  | a :: p => by
    show ((a == 42) :: stars p).count true = _
    rw [List.count_cons, List.count_cons, count_stars p]
    by_cases h : a = 42
    · rw [h]; rfl
    · have : (a == 42) = false := beq_eq_false_iff_ne.mpr h
      rw [this]; rfl
theorem shape_in {p : List Nat} (h : okP8 p) : stars p ∈ shapes := by
  have hl : (stars p).length = p.length := List.length_map ..
  unfold shapes
  rw [List.mem_filter, List.mem_flatMap]
  refine ⟨⟨(stars p).length, List.mem_range.mpr (by have := h.1; omega), mem_bools _⟩, decide_eq_true ?_⟩
  rw [count_stars]
  exact h.2.2
abbrev Yp (p : List Nat) : List (List Int) := clo (stars p) 4
theorem Y_ok {p : List Nat} (h : okP8 p) : okY (stars p) (Yp p) = true := by
  have := List.all_eq_true.mp chk_Y (stars p, clo (stars p) 4) (List.mem_map.mpr ⟨stars p, shape_in h, rfl⟩)
  exact this
theorem Y_len {p : List Nat} (h : okP8 p) : (Yp p).length ≤ if stars p = star4 then 8 else 6 := by
  have := Y_ok h
  unfold okY at this
  rw [Bool.and_eq_true] at this
  exact of_decide_eq_true this.2
theorem fits_mem {p : List Nat} {c : Nat} : fits1 c p ∈ bools (stars p).length := by
  have : (stars p).length = (fits1 c p).length := by unfold stars fits1; rw [List.length_map, List.length_map]
  rw [this]
  exact mem_bools _
theorem Y_step {p : List Nat} (h : okP8 p) (c : Nat) : nxp c p (stS (stars p)) ∈ Yp p ∧ ∀ S ∈ Yp p, nxp c p S ∈ Yp p := by
  have := Y_ok h
  unfold okY at this
  rw [Bool.and_eq_true] at this
  have := List.all_eq_true.mp this.1 _ (fits_mem (c := c))
  rw [Bool.and_eq_true] at this
  exact ⟨of_decide_eq_true this.1, fun S hS => of_decide_eq_true (List.all_eq_true.mp this.2 S hS)⟩
theorem Ls_st {p t : List Nat} : Ls p t 0 = stS (stars p) := by
  have e0 : (stars p).takeWhile (fun b => b) = (p.takeWhile (· == 42)).map (· == 42) := by
    unfold stars
    rw [List.takeWhile_map]
    rfl
  unfold stS
  rw [e0, List.length_map]
  show ((List.range (p.length + 1)).filter fun k => Mb p t k 0).map _ = _
  rw [filt_le (c := fun k => Mb p t k 0) (n := (p.takeWhile (· == 42)).length) (L := p.length) (List.takeWhile_sublist _).length_le fun k hk => by rw [M0, tw_spec p k hk]]
theorem Y_all {p : List Nat} (h : okP8 p) : ∀ (n : Nat) (t : List Nat) (c : Nat), t.length = n → Ls p (t ++ [c]) (t.length + 1) ∈ Yp p
  | 0, t, c, e => by
    have : t = [] := List.eq_nil_of_length_eq_zero e
    subst this
    rw [← nxp_Ls]
    show nxp c p (Ls p [] 0) ∈ _
    rw [Ls_st]
    exact (Y_step h c).1
  | n + 1, t, c, e => by
    rcases List.eq_nil_or_concat t with z | ⟨t', c', z⟩
    · rw [z] at e; cases e
    · rw [List.concat_eq_append] at z
      subst z
      rw [← nxp_Ls]
      have := Y_all h n t' c' (by rw [List.length_append, List.length_singleton] at e; omega)
      refine (Y_step h c).2 _ ?_
      rw [List.length_append]
      exact this
def prodL {α : Type} : List (List α) → List (List α)
  | [] => [[]]
  | Y :: Ys => (prodL Ys).flatMap fun r => Y.map fun x => x :: r
theorem prod_in {f : List Nat → List Int} {Y : List Nat → List (List Int)} : ∀ {ps : List (List Nat)}, (∀ p ∈ ps, f p ∈ Y p) → ps.map f ∈ prodL (ps.map Y)
  | [], _ => by simp [prodL]
  | p :: ps, h => by
    have ih := prod_in (ps := ps) fun p hp => h p (List.mem_cons_of_mem _ hp)
    rw [List.map_cons, List.map_cons, prodL, List.mem_flatMap]
    exact ⟨_, ih, List.mem_map.mpr ⟨f p, h p (List.mem_cons_self ..), rfl⟩⟩
theorem prod_len {α : Type} {Y : List α} {Ys : List (List α)} {a b : Nat} (h1 : Y.length ≤ a) (h2 : (prodL Ys).length ≤ b) : (prodL (Y :: Ys)).length ≤ b * a := by
  unfold prodL
  have : ∀ L : List (List α), (L.flatMap fun r => Y.map fun x => x :: r).length = L.length * Y.length := by
    intro L
    induction L with
    | nil => simp
    | cons r L ih => rw [List.flatMap_cons, List.length_append, ih, List.length_map, List.length_cons, Nat.succ_mul]; omega
  rw [this]
  exact Nat.mul_le_mul h2 h1
theorem prod_nil {α : Type} : (prodL ([] : List (List α))).length ≤ 1 := Nat.le_refl _
theorem map4 {p : List Nat} (h : stars p = star4) : p.length = 4 ∧ ∀ k, k < 4 → ((p.getD k 0 == 42) = star4.getD k false) := by
  have hl : (stars p).length = p.length := List.length_map ..
  rw [h] at hl
  have hl : p.length = 4 := hl.symm
  refine ⟨hl, fun k hk => ?_⟩
  rw [← h]
  exact (getD_mapB (f := fun a => a == 42) (by omega)).symm
def vx (c : Nat) (p : List Nat) : Bool := p.getD 1 0 == 63 || p.getD 1 0 == c
theorem has1 {p t : List Nat} (h : okP8 p) (h4 : stars p = star4) : (1 : Int) ∈ Ls p t t.length := by
  rcases List.eq_nil_or_concat t with z | ⟨t', c', z⟩
  · subst z
    show (1 : Int) ∈ Ls p [] 0
    rw [Ls_st, h4]
    decide
  · rw [List.concat_eq_append] at z
    subst z
    have := Y_all h _ t' c' rfl
    have e : Yp p = clo star4 4 := by rw [Yp, h4]
    rw [e] at this
    rw [List.length_append]
    exact of_decide_eq_true (List.all_eq_true.mp chk_5 _ this)
theorem two_in {p t : List Nat} {c : Nat} (h : okP8 p) (h4 : stars p = star4) : decide ((2 : Int) ∈ Ls p (t ++ [c]) (t.length + 1)) = vx c p := by
  obtain ⟨hl, hk⟩ := map4 h4
  have h1 := has1 (t := t) h h4
  have : decide ((2 : Int) ∈ Ls p (t ++ [c]) (t.length + 1)) = Mb p (t ++ [c]) 2 (t.length + 1) := by
    rw [Bool.eq_iff_iff, decide_eq_true_eq, show (2 : Int) = ((2 : Nat) : Int) from rfl, Ls_mem (by omega)]
  rw [this, ← nbS_Mb 2 (by omega), nbS, h4, show star4.getD 1 false = false from rfl, if_neg Bool.false_ne_true, decide_eq_true (show ((1 : Nat) : Int) ∈ Ls p t t.length from h1), Bool.true_and, fits1, getD_mapB (by omega)]
  rfl
theorem x_ne {p : List Nat} (h : okP8 p) (h4 : stars p = star4) : p.getD 1 0 ≠ 0 := by
  obtain ⟨hl, _⟩ := map4 h4
  have := h.2.1 (p.getD 1 0) (by rw [List.getD_eq_getElem?_getD, List.getElem?_eq_getElem (by omega : 1 < p.length)]; exact List.getElem_mem _)
  unfold goodc at this
  omega
def Fv (c : Nat) (p : List Nat) : List (List Int) := (clo star4 4).filter fun S => decide ((2 : Int) ∈ S) == vx c p
theorem Fv_len {c : Nat} {p : List Nat} : (Fv c p).length ≤ 4 := by
  have := List.all_eq_true.mp chk_4 (vx c p) (by cases vx c p <;> simp)
  exact of_decide_eq_true this
theorem cover {ps : List (List Nat)} (h : okPs ps) : ∃ L : List Qs, L.length ≤ 385 ∧ ∀ t, qs ps t ∈ L := by
  have key : ∃ L : List Qs, L.length ≤ 384 ∧ ∀ t c, qs ps (t ++ [c]) ∈ L := by
    have all : ∀ t c, qs ps (t ++ [c]) ∈ prodL (ps.map Yp) := fun t c => by
      unfold qs
      refine prod_in fun p hp => ?_
      have := Y_all (h.2 p hp) _ t c rfl
      rw [List.length_append]
      exact this
    have len : ∀ p ∈ ps, (Yp p).length ≤ 8 := fun p hp => by
      have := Y_len (h.2 p hp)
      split at this <;> omega
    have len6 : ∀ p ∈ ps, stars p ≠ star4 → (Yp p).length ≤ 6 := fun p hp h4 => by
      have := Y_len (h.2 p hp)
      rwa [if_neg h4] at this
    match ps, h, all, len, len6 with
    | [], _, all, _, _ => exact ⟨_, Nat.le_trans prod_nil (by decide), all⟩
    | [p], _, all, len, _ => exact ⟨_, Nat.le_trans (prod_len (len p (by simp)) prod_nil) (by decide), all⟩
    | [p, q], _, all, len, _ => exact ⟨_, Nat.le_trans (prod_len (len p (by simp)) (prod_len (len q (by simp)) prod_nil)) (by decide), all⟩
    | [p, q, r], h, all, len, len6 =>
      by_cases hp : stars p = star4
      · by_cases hq : stars q = star4
        · by_cases hr : stars r = star4
          · refine ⟨[p.getD 1 0, q.getD 1 0, r.getD 1 0, 0].flatMap fun c => prodL ([p, q, r].map (Fv c)), ?_, fun t c => ?_⟩
            · have : ∀ L : List Nat, (L.flatMap fun c => prodL ([p, q, r].map (Fv c))).length ≤ L.length * 64 := by
                intro L
                induction L with
                | nil => simp
                | cons a L ih =>
                  rw [List.flatMap_cons, List.length_append, List.length_cons]
                  have : (prodL ([p, q, r].map (Fv a))).length ≤ 1 * 4 * 4 * 4 := prod_len Fv_len (prod_len Fv_len (prod_len Fv_len prod_nil))
                  omega
              exact Nat.le_trans (this _) (show 4 * 64 ≤ 384 by decide)
            · have e4 : ∀ u ∈ [p, q, r], stars u = star4 := fun u hu => by
                simp only [List.mem_cons, List.not_mem_nil, or_false] at hu
                rcases hu with rfl | rfl | rfl <;> assumption
              have main : ∀ c', (∀ u ∈ [p, q, r], vx c u = vx c' u) → qs [p, q, r] (t ++ [c]) ∈ prodL ([p, q, r].map (Fv c')) := fun c' hc => by
                unfold qs
                refine prod_in fun u hu => ?_
                unfold Fv
                rw [List.mem_filter]
                have h1 := Y_all (h.2 u hu) _ t c rfl
                rw [Yp, e4 u hu] at h1
                rw [List.length_append]
                refine ⟨h1, ?_⟩
                rw [show t.length + [c].length = t.length + 1 from rfl, two_in (h.2 u hu) (e4 u hu), hc u hu]
                exact beq_self_eq_true _
              rw [List.mem_flatMap]
              by_cases hc : c ∈ [p.getD 1 0, q.getD 1 0, r.getD 1 0]
              · refine ⟨c, ?_, main c fun _ _ => rfl⟩
                simp only [List.mem_cons, List.not_mem_nil, or_false] at hc ⊢
                rcases hc with z | z | z
                · exact .inl z
                · exact .inr (.inl z)
                · exact .inr (.inr (.inl z))
              · refine ⟨0, by simp, main 0 fun u hu => ?_⟩
                have n1 : u.getD 1 0 ≠ c := fun z => hc (by
                  simp only [List.mem_cons, List.not_mem_nil, or_false] at hu ⊢
                  rcases hu with rfl | rfl | rfl
                  · exact .inl z.symm
                  · exact .inr (.inl z.symm)
                  · exact .inr (.inr z.symm))
                have n0 := x_ne (h.2 u hu) (e4 u hu)
                unfold vx
                rw [beq_eq_false_iff_ne.mpr n1, beq_eq_false_iff_ne.mpr n0]
          · exact ⟨_, Nat.le_trans (prod_len (len p (by simp)) (prod_len (len q (by simp)) (prod_len (len6 r (by simp) hr) prod_nil))) (by decide), all⟩
        · exact ⟨_, Nat.le_trans (prod_len (len p (by simp)) (prod_len (len6 q (by simp) hq) (prod_len (len r (by simp)) prod_nil))) (by decide), all⟩
      · exact ⟨_, Nat.le_trans (prod_len (len6 p (by simp) hp) (prod_len (len q (by simp)) (prod_len (len r (by simp)) prod_nil))) (by decide), all⟩
    | _ :: _ :: _ :: _ :: _, h, _, _, _ => have := h.1; simp at this
  obtain ⟨L, h1, h2⟩ := key
  refine ⟨qs ps [] :: L, by rw [List.length_cons]; omega, fun t => ?_⟩
  rcases List.eq_nil_or_concat t with z | ⟨t', c', z⟩
  · rw [z]; exact List.mem_cons_self ..
  · rw [z, List.concat_eq_append]; exact List.mem_cons_of_mem _ (h2 _ _)
end
section
def add1 (X : List Qs) (s : Qs) : List Qs := if s ∈ X then X else X ++ [s]
def addQ (X : List Qs) (l : List Qs) : List Qs := l.foldl add1 X
theorem addQ_cons {X : List Qs} {s : Qs} {l : List Qs} : addQ X (s :: l) = addQ (add1 X s) l := rfl
theorem add1_in {X : List Qs} {s : Qs} (h : s ∈ X) : add1 X s = X := if_pos h
theorem add1_new {X : List Qs} {s : Qs} (h : s ∉ X) : add1 X s = X ++ [s] := if_neg h
theorem add1_pre (X : List Qs) (s : Qs) : ∃ Z, add1 X s = X ++ Z := by
  by_cases h : s ∈ X
  · exact ⟨[], by rw [add1_in h, List.append_nil]⟩
  · exact ⟨[s], add1_new h⟩
theorem addQ_pre : ∀ (l X : List Qs), ∃ Z, addQ X l = X ++ Z
  | [], X => ⟨[], (List.append_nil X).symm⟩
  | s :: l, X => by
    obtain ⟨Z, h⟩ := add1_pre X s
    obtain ⟨Z', h'⟩ := addQ_pre l (add1 X s)
    exact ⟨Z ++ Z', by rw [addQ_cons, h', h, List.append_assoc]⟩
theorem addQ_mono {l X : List Qs} {x : Qs} (h : x ∈ X) : x ∈ addQ X l := by
  obtain ⟨Z, e⟩ := addQ_pre l X
  rw [e]
  exact List.mem_append_left _ h
theorem add1_mem {X : List Qs} {s : Qs} : s ∈ add1 X s := by
  by_cases h : s ∈ X
  · rwa [add1_in h]
  · rw [add1_new h]; simp
theorem addQ_mem : ∀ {l X : List Qs} {s : Qs}, s ∈ l → s ∈ addQ X l
  | x :: l, X, s, h => by
    rcases List.mem_cons.mp h with e | h
    · subst e
      exact addQ_mono (l := l) add1_mem
    · exact addQ_mem (l := l) h
theorem addQ_nodup : ∀ {l X : List Qs}, X.Nodup → (addQ X l).Nodup
  | [], _, h => h
  | s :: l, X, h => by
    rw [addQ_cons]
    refine addQ_nodup (l := l) ?_
    by_cases g : s ∈ X
    · rwa [add1_in g]
    · rw [add1_new g]
      exact List.nodup_append.mpr ⟨h, by simp, fun a ha b hb => by rw [List.mem_singleton.mp hb]; exact fun e => g (e ▸ ha)⟩
theorem addQ_all {P : Qs → Prop} : ∀ {l X : List Qs}, (∀ x ∈ X, P x) → (∀ s ∈ l, P s) → ∀ x ∈ addQ X l, P x
  | [], _, h, _ => h
  | s :: l, X, h, g => by
    rw [addQ_cons]
    refine addQ_all (l := l) (fun x hx => ?_) fun x hx => g x (List.mem_cons_of_mem _ hx)
    by_cases q : s ∈ X
    · rw [add1_in q] at hx; exact h x hx
    · rw [add1_new q, List.mem_append, List.mem_singleton] at hx
      rcases hx with z | z
      · exact h x z
      · rw [z]; exact g s (List.mem_cons_self ..)
/-- the letters that stand for all: the program's, one for each | the law's -/
def repL (nm : Nat → Bool) : Option Nat → List Nat → List Nat
  | _, [] => []
  | o, c :: l => if nm c = true then c :: repL nm o l else match o with
    | none => c :: repL nm (some c) l
    | some a => a :: repL nm (some a) l
def letL (nm : Nat → Bool) : Bool → List Nat → List Nat
  | _, [] => []
  | b, c :: l => if (nm c || b) = true then c :: letL nm (b && nm c) l else letL nm (b && nm c) l
theorem add_rep (nm : Nat → Bool) (f : Nat → Qs) : ∀ (l : List Nat) (o : Option Nat) (X : List Qs), (∀ a, o = some a → f a ∈ X) → addQ X ((repL nm o l).map f) = addQ X ((letL nm o.isNone l).map f)
  | [], _, _, _ => rfl
  | c :: l, o, X, h => by
    have h1 : ∀ a, o = some a → f a ∈ add1 X (f c) := fun a e => by
      obtain ⟨Z, z⟩ := add1_pre X (f c)
      rw [z]
      exact List.mem_append_left _ (h a e)
    have e : repL nm o (c :: l) = if nm c = true then c :: repL nm o l else match o with
      | none => c :: repL nm (some c) l
      | some a => a :: repL nm (some a) l := by cases o <;> rfl
    rw [e, letL]
    by_cases hc : nm c = true
    · rw [if_pos hc, if_pos (by rw [hc]; rfl), List.map_cons, List.map_cons, addQ_cons, addQ_cons, add_rep nm f l o _ h1, hc, Bool.and_true]
    · have hc' : nm c = false := by simpa using hc
      rw [if_neg hc, hc', Bool.false_or, Bool.and_false]
      cases o with
      | none =>
        show addQ X (List.map f (c :: repL nm (some c) l)) = addQ X (List.map f (c :: letL nm false l))
        rw [List.map_cons, List.map_cons, addQ_cons, addQ_cons, add_rep nm f l (some c) _ (fun a e => by cases e; exact add1_mem)]
        rfl
      | some a =>
        show addQ X (List.map f (a :: repL nm (some a) l)) = addQ X (List.map f (letL nm false l))
        rw [List.map_cons, addQ_cons, add1_in (h a rfl), add_rep nm f l (some a) X h]
        rfl
theorem let_has (nm : Nat → Bool) {c : Nat} : ∀ (l : List Nat) (b : Bool), c ∈ l → (nm c = true → c ∈ letL nm b l) ∧ (nm c = false → b = true → ∃ f ∈ letL nm b l, nm f = false)
  | x :: l, b, h => by
    rw [letL]
    constructor
    · intro hc
      rcases List.mem_cons.mp h with e | h
      · subst e
        rw [if_pos (by rw [hc]; rfl)]
        exact List.mem_cons_self ..
      · have := (let_has nm l (b && nm x) h).1 hc
        split
        · exact List.mem_cons_of_mem _ this
        · exact this
    · intro hc hb
      subst hb
      rw [if_pos (by rw [Bool.or_true])]
      cases hx : nm x with
      | false => exact ⟨x, List.mem_cons_self .., hx⟩
      | true =>
        rcases List.mem_cons.mp h with e | h
        · subst e; rw [hc] at hx; cases hx
        · obtain ⟨f, h1, h2⟩ := (let_has nm l (true && true) h).2 hc rfl
          exact ⟨f, List.mem_cons_of_mem _ h1, h2⟩
def nmd (ps : List (List Nat)) (c : Nat) : Bool := decide (c ∈ ps.flatten)
abbrev lawLs (ps : List (List Nat)) : List Nat := letL (nmd ps) true letters
abbrev progLs (ps : List (List Nat)) : List Nat := repL (nmd ps) none letters
def bfs (ps : List (List Nat)) : Nat → List Qs
  | 0 => [qs ps []]
  | n + 1 => match (bfs ps n)[n]? with
    | some s => addQ (bfs ps n) ((lawLs ps).map fun c => nxq ps c s)
    | none => bfs ps n
section
variable {ps : List (List Nat)}
theorem bfs_some {n : Nat} {s : Qs} (h : (bfs ps n)[n]? = some s) : bfs ps (n + 1) = addQ (bfs ps n) ((lawLs ps).map fun c => nxq ps c s) := by
  rw [bfs, h]
theorem bfs_none {n : Nat} (h : (bfs ps n)[n]? = none) : bfs ps (n + 1) = bfs ps n := by
  rw [bfs, h]
theorem bfs_prog {n : Nat} {s : Qs} (h : (bfs ps n)[n]? = some s) : bfs ps (n + 1) = addQ (bfs ps n) ((progLs ps).map fun c => nxq ps c s) := by
  rw [bfs_some h, add_rep (nmd ps) (fun c => nxq ps c s) letters none _ (fun a e => by cases e)]
  rfl
theorem bfs_pre1 (n : Nat) : ∃ Z, bfs ps (n + 1) = bfs ps n ++ Z := by
  cases h : (bfs ps n)[n]? with
  | none => exact ⟨[], by rw [bfs_none h, List.append_nil]⟩
  | some s => rw [bfs_some h]; exact addQ_pre _ _
theorem bfs_pre (n : Nat) : ∀ k, ∃ Z, bfs ps (n + k) = bfs ps n ++ Z
  | 0 => ⟨[], by rw [List.append_nil]; rfl⟩
  | k + 1 => by
    obtain ⟨Z, h⟩ := bfs_pre n k
    obtain ⟨Z', h'⟩ := bfs_pre1 (ps := ps) (n + k)
    exact ⟨Z ++ Z', by rw [show n + (k + 1) = (n + k) + 1 by omega, h', h, List.append_assoc]⟩
theorem bfs_nodup : ∀ n, (bfs ps n).Nodup
  | 0 => by simp [bfs]
  | n + 1 => by
    cases h : (bfs ps n)[n]? with
    | none => rw [bfs_none h]; exact bfs_nodup n
    | some s => rw [bfs_some h]; exact addQ_nodup (bfs_nodup n)
theorem bfs_qs : ∀ n, ∀ x ∈ bfs ps n, ∃ t, x = qs ps t
  | 0, x, h => by
    rw [bfs, List.mem_singleton] at h
    exact ⟨[], h⟩
  | n + 1, x, hx => by
    cases h : (bfs ps n)[n]? with
    | none => rw [bfs_none h] at hx; exact bfs_qs n x hx
    | some s =>
      rw [bfs_some h] at hx
      refine addQ_all (P := fun x => ∃ t, x = qs ps t) (bfs_qs n) (fun y hy => ?_) x hx
      obtain ⟨c, _, rfl⟩ := List.mem_map.mp hy
      obtain ⟨t, rfl⟩ := bfs_qs n s (List.mem_of_getElem? h)
      exact ⟨_, nxq_qs⟩
theorem bfs_len (h : okPs ps) (n : Nat) : (bfs ps n).length ≤ 385 := by
  obtain ⟨L, h1, h2⟩ := cover h
  refine Nat.le_trans (nodup_sub (bfs_nodup n) fun x hx => ?_) h1
  obtain ⟨t, rfl⟩ := bfs_qs n x hx
  exact h2 t
theorem bfs_stop {n : Nat} (h : (bfs ps n).length ≤ n) : ∀ k, bfs ps (n + k) = bfs ps n
  | 0 => rfl
  | k + 1 => by
    have ih := bfs_stop h k
    rw [show n + (k + 1) = (n + k) + 1 by omega, bfs_none, ih]
    rw [ih]
    exact List.getElem?_eq_none (by omega)
theorem bfs_done (h : okPs ps) {n : Nat} (hn : (bfs ps n).length ≤ n) : bfs ps n = bfs ps 401 := by
  by_cases g : n ≤ 401
  · have := bfs_stop hn (401 - n)
    rw [show n + (401 - n) = 401 by omega] at this
    exact this.symm
  · have := bfs_stop (ps := ps) (n := 401) (by have := bfs_len h 401; omega) (n - 401)
    rw [show 401 + (n - 401) = n by omega] at this
    exact this
theorem bfs_closed (h : okPs ps) {s : Qs} (hs : s ∈ bfs ps 401) {c : Nat} (hc : c ∈ letters) : nxq ps c s ∈ bfs ps 401 := by
  obtain ⟨i, hi⟩ := List.mem_iff_getElem?.mp hs
  have hil := (List.getElem?_eq_some_iff.mp hi).1
  have hl := bfs_len h 401
  have gi : i < (bfs ps i).length := by
    apply Classical.byContradiction
    intro g
    have := bfs_stop (ps := ps) (n := i) (by omega) (401 - i)
    rw [show i + (401 - i) = 401 by omega] at this
    rw [this] at hil
    omega
  obtain ⟨Z, hz⟩ := bfs_pre (ps := ps) i (401 - i)
  rw [show i + (401 - i) = 401 by omega] at hz
  have hs' : (bfs ps i)[i]? = some s := by
    rw [hz, List.getElem?_append_left gi] at hi
    exact hi
  obtain ⟨Z', hz'⟩ := bfs_pre (ps := ps) (i + 1) (401 - (i + 1))
  rw [show i + 1 + (401 - (i + 1)) = 401 by omega] at hz'
  rw [hz']
  refine List.mem_append_left _ ?_
  rw [bfs_some hs']
  refine addQ_mem (List.mem_map.mpr ?_)
  have := let_has (nmd ps) letters true hc
  cases e : nmd ps c with
  | true => exact ⟨c, this.1 e, rfl⟩
  | false =>
    obtain ⟨f, h1, h2⟩ := this.2 e rfl
    exact ⟨f, h1, nxq_un (of_decide_eq_false h2) (of_decide_eq_false e) s⟩
end
end
section
structure Gd (x : PyData) (d b : Nat) : Prop where
  lay : x.canLay0 = true
  dep : x.depth ≤ d
  sh : x.showable = true
  hd : x.hasDict = false
  lf : x.leavesShort 10 = true
  bk : x.bulk ≤ b
theorem gd_all {d b : Nat} : ∀ xs : List PyData, (∀ x ∈ xs, Gd x d b) → PyData.canLayAll0 xs = true ∧ PyData.depthAll xs ≤ d ∧ PyData.showableAll xs = true ∧ PyData.hasDictAll xs = false ∧ PyData.leavesShortAll 10 xs = true ∧ PyData.bulkAll xs ≤ xs.length * (b + 1)
  | [], _ => ⟨rfl, Nat.zero_le _, rfl, rfl, rfl, Nat.zero_le _⟩
  | x :: xs, h => by
    obtain ⟨a1, a2, a3, a4, a5, a6⟩ := gd_all xs fun y hy => h y (List.mem_cons_of_mem _ hy)
    obtain ⟨b1, b2, b3, b4, b5, b6⟩ := h x (List.mem_cons_self ..)
    refine ⟨by simp [PyData.canLayAll0, a1, b1], by simp only [PyData.depthAll]; omega, by simp [PyData.showableAll, a3, b3], by simp [PyData.hasDictAll, a4, b4], by simp [PyData.leavesShortAll, a5, b5], ?_⟩
    simp only [PyData.bulkAll, List.length_cons, Nat.succ_mul]
    omega
theorem gd_tup {d b n : Nat} {xs : List PyData} (h : ∀ x ∈ xs, Gd x d b) (hn : xs.length ≤ n) : Gd (.tuple xs) (d + 1) (n * (b + 1)) := by
  obtain ⟨a1, a2, a3, a4, a5, a6⟩ := gd_all xs h
  exact ⟨by simp [PyData.canLay0, a1], by simp only [PyData.depth]; omega, by simp [PyData.showable, a3], by simp [PyData.hasDict, a4], by simp [PyData.leavesShort, a5], by simp only [PyData.bulk]; exact Nat.le_trans a6 (Nat.mul_le_mul_right _ hn)⟩
theorem gd_lst {d b n : Nat} {xs : List PyData} (h : ∀ x ∈ xs, Gd x d b) (hn : xs.length ≤ n) : Gd (.list xs) (d + 1) (n * (b + 1)) := by
  obtain ⟨a1, a2, a3, a4, a5, a6⟩ := gd_all xs h
  exact ⟨by simp [PyData.canLay0, a1], by simp only [PyData.depth]; omega, by simp [PyData.showable, a3], by simp [PyData.hasDict, a4], by simp [PyData.leavesShort, a5], by simp only [PyData.bulk]; exact Nat.le_trans a6 (Nat.mul_le_mul_right _ hn)⟩
theorem gd_shp {x : D} {d b : Nat} (h : Gd (py x) d b) (hd : d ≤ 8) : shp x = true := by
  have := h.dep
  simp [shp, SeqAt.shaped, h.lay]
  omega
theorem pys_mem : ∀ (xs : List D) (y : PyData), y ∈ pys xs → ∃ x ∈ xs, y = py x
  | [], _, h => by cases h
  | x :: xs, y, h => by
    have h : y ∈ py x :: pys xs := h
    rcases List.mem_cons.mp h with e | h
    · exact ⟨x, List.mem_cons_self .., e⟩
    · obtain ⟨z, h1, h2⟩ := pys_mem xs y h
      exact ⟨z, List.mem_cons_of_mem _ h1, h2⟩
theorem pys_len : ∀ xs : List D, (pys xs).length = xs.length
  | [] => rfl
  | x :: xs => by show (pys xs).length + 1 = _; rw [pys_len xs]; rfl
theorem nkDs_map {α : Type} {f : α → D} {g : α → NestedKey} : ∀ {xs : List α}, (∀ x ∈ xs, nkD (f x) = some (g x)) → nkDs (xs.map f) = some (xs.map g)
  | [], _ => by rw [List.map_nil, nkDs]; rfl
  | x :: xs, h => by
    rw [List.map_cons, nkDs, h x (List.mem_cons_self ..), Option.bind_some, nkDs_map (xs := xs) fun y hy => h y (List.mem_cons_of_mem _ hy)]
    rfl
def kL (l : List Int) : NestedKey := .tup (l.map .num)
def kQ (s : Qs) : NestedKey := .tup (s.map kL)
theorem nk_l (l : List Int) : nkD (.tup (dI l)) = some (kL l) := by
  rw [nkD, dI, nkDs_map (g := fun i => .num i) fun i _ => by rw [nkD]]
  rfl
theorem nk_eQ (s : Qs) : nkD (eQ s) = some (kQ s) := by
  unfold eQ
  rw [nkD, nkDs_map (g := kL) fun l _ => nk_l l]
  rfl
theorem map_inj' {α β : Type} {f : α → β} (hf : ∀ a b, f a = f b → a = b) : ∀ {xs ys : List α}, xs.map f = ys.map f → xs = ys
  | [], [], _ => rfl
  | [], _ :: _, h => by cases h
  | _ :: _, [], h => by cases h
  | x :: xs, y :: ys, h => by
    rw [List.map_cons, List.map_cons] at h
    injection h with h1 h2
    rw [hf _ _ h1, map_inj' hf h2]
theorem kL_inj (a b : List Int) (h : kL a = kL b) : a = b := by
  unfold kL at h
  injection h with h
  exact map_inj' (fun x y e => by injection e) h
theorem kQ_inj (a b : Qs) (h : kQ a = kQ b) : a = b := by
  unfold kQ at h
  injection h with h
  exact map_inj' kL_inj h
theorem key_eQ (a b : Qs) : keyU (eQ a) (eQ b) = decide (a = b) := by
  rw [keyU_dec (nk_eQ a) (nk_eQ b)]
  by_cases h : a = b
  · rw [decide_eq_true h, h, decide_eq_true rfl]
  · rw [decide_eq_false h, decide_eq_false fun z => h (kQ_inj a b z)]
theorem has_eQ (s : Qs) : ∀ X : List Qs, hasU (X.map eQ) (eQ s) = decide (s ∈ X)
  | [] => rfl
  | x :: X => by
    have ih := has_eQ s X
    unfold hasU at ih ⊢
    rw [List.map_cons, List.any_cons, ih, key_eQ, Bool.eq_iff_iff, Bool.or_eq_true, decide_eq_true_eq, decide_eq_true_eq, decide_eq_true_eq, List.mem_cons]
    exact or_congr ⟨fun e => e.symm, fun e => e.symm⟩ Iff.rfl
theorem dep_all {d : Nat} : ∀ ks : List NestedKey, (∀ k ∈ ks, k.depth ≤ d) → NestedKey.depthAll ks ≤ d
  | [], _ => by simp [NestedKey.depthAll]
  | k :: ks, h => by
    have h1 := dep_all ks fun x hx => h x (List.mem_cons_of_mem _ hx)
    have h2 := h k (List.mem_cons_self ..)
    simp only [NestedKey.depthAll]
    omega
theorem ok_eQ (s : Qs) : okKU (eQ s) = true := by
  have e : okKU (eQ s) = (match nkD (eQ s) with | some q => decide (q.depth ≤ 8) | none => false) := rfl
  rw [e, nk_eQ]
  refine decide_eq_true ?_
  unfold kQ
  have : NestedKey.depthAll (s.map kL) ≤ 2 := dep_all _ fun k hk => by
    obtain ⟨l, _, rfl⟩ := List.mem_map.mp hk
    unfold kL
    have : NestedKey.depthAll (l.map NestedKey.num) ≤ 1 := dep_all _ fun k hk => by
      obtain ⟨i, _, rfl⟩ := List.mem_map.mp hk
      simp [NestedKey.depth]
    simp only [NestedKey.depth]
    omega
  simp only [NestedKey.depth]
  omega
end
section
theorem St_congr {ps : List (List Nat)} {t u : List Nat} {j : Nat} (h : ∀ i, i < j → t.getD i 0 = u.getD i 0) : St ps t j = St ps u j := by
  unfold St
  congr 1
  refine List.map_congr_left fun p _ => ?_
  congr 2
  unfold Ls Lx
  congr 1
  refine List.filter_congr fun k _ => ?_
  exact Mb_congr (k + j) k j (Nat.le_refl _) (fun _ _ => rfl) h
theorem ev_nxQ {ps : List (List Nat)} {t : List Nat} {c : Nat} (h : okPs ps) : ∃ o, m_next_state [.d (.lst (sL ps)), .d (eQ (qs ps t)), .d (.str [c])] = some (.ok (.d (eQ (nxq ps c (qs ps t)))) o) := by
  obtain ⟨o, e⟩ := ev_next_state (t := t ++ [c]) (j := t.length) h
  have e1 : St ps (t ++ [c]) t.length = eQ (qs ps t) := by
    rw [eQ_St]
    exact St_congr fun i hi => by rw [List.getD_eq_getElem?_getD, List.getD_eq_getElem?_getD, List.getElem?_append_left hi]
  have e2 : (t ++ [c]).getD t.length 0 = c := by rw [List.getD_eq_getElem?_getD, List.getElem?_append_right (Nat.le_refl _), Nat.sub_self]; rfl
  have e3 : St ps (t ++ [c]) (t.length + 1) = eQ (nxq ps c (qs ps t)) := by
    rw [nxq_qs, eQ_St, List.length_append]
    rfl
  rw [e1, e2, e3] at e
  exact ⟨o, e⟩
def othS (f : Nat → D) : Option Nat → SV
  | none => .d .non
  | some a => .d (f a)
theorem txts_sL : ∀ ss : List (List Nat), txts (sL ss) = some ss
  | [] => rfl
  | s :: ss => by
    have := txts_sL ss
    unfold sL at this ⊢
    rw [List.map_cons, txts, this]
    rfl
theorem join_ps {ps : List (List Nat)} (h : okPs ps) : joinD (.str []) [.lst (sL ps)] = some (.d (.str ps.flatten)) := by
  have hl : (ps.map (·.length)).sum ≤ 4 * ps.length := by
    have := h.2
    clear h
    induction ps with
    | nil => simp
    | cons p ps ih =>
      have h1 := (this p (List.mem_cons_self ..)).1
      have := ih fun q hq => this q (List.mem_cons_of_mem _ hq)
      rw [List.map_cons, List.sum_cons, List.length_cons]
      omega
  have := h.1
  simp only [joinD]
  rw [txts_sL, Option.bind_some, joinL_nil, if_pos (by simp; omega)]
theorem ev_behind {ps : List (List Nat)} {t : List Nat} (h : okPs ps) : ∃ o, m_states_behind [.d (.lst (sL ps)), .d (eQ (qs ps t))] = some (.ok (.own (.lst (((progLs ps).map fun c => nxq ps c (qs ps t)).map eQ))) o) := by
  have : wF (m_states_behind [.d (.lst (sL ps)), .d (eQ (qs ps t))]) (fun u _ => u = .own (.lst ((progLs ps).map fun c => eQ (nxq ps c (qs ps t))))) nX := by
    refine w_defM rfl (by fail "S") ?_
    unfold b_states_behind
    have jp := join_ps h
    have nx := fun c => ev_nxQ (t := t) (c := c) h
    generalize hf : (fun c => eQ (nxq ps c (qs ps t))) = f
    have nx : ∀ c, ∃ o, m_next_state [.d (.lst (sL ps)), .d (eQ (qs ps t)), .d (.str [c])] = some (.ok (.d (f c)) o) := fun c => by rw [← hf]; exact nx c
    have isn : ∀ c, isD (f c) .non = some (.d (.bl false)) := fun c => by rw [← hf]; rfl
    generalize eQ (qs ps t) = S at nx
    have it : itemsD (.str letters) = some (letters.map fun c => .str [c]) := rfl
    unfold letters at it
    (repeat' fail "V")
    refine w_loopM (d := fun c => D.str [c]) (l := letters) (fun pre e => ∃ (o : Option Nat) (done : List D) (w : SV), freeSlot (some w) = true ∧ done.length = pre.length ∧ (∀ suf, letters = pre ++ suf → done ++ (repL (nmd ps) o suf).map f = (progLs ps).map f) ∧ e = [.d (.lst (sL ps)), .d S, .d (.str ps.flatten), othS f o, .own false (.lst done), w]) ⟨none, [], _, rfl, rfl, fun suf e => by rw [List.nil_append] at e; subst e; rfl, rfl⟩ ?_ ?_
    · rintro pre c suf _ hx ⟨o, done, w, fw, dl, hd, rfl⟩
      refine ⟨[.d (.lst (sL ps)), .d S, .d (.str ps.flatten), othS f o, .own false (.lst done), .d (.str [c])], put_nm fw rfl, ?_⟩
      have hl : done.length ≤ 26 := by
        have : letters.length = 26 := rfl
        rw [hx, List.length_append, List.length_cons] at this
        omega
      have hd := hd _ hx
      have nxt : ∀ suf', letters = (pre ++ [c]) ++ suf' → suf' = suf := fun suf' e => by
        rw [hx, List.append_assoc] at e
        have := List.append_cancel_left e
        injection this with _ h2
        exact h2.symm
      have ic : inG (.str [c]) (.str ps.flatten) = some (.d (.bl (nmd ps c))) := rfl
      obtain ⟨o1, n1⟩ := nx c
      unfold l_states_behind_1
      cases hc : nmd ps c with
      | true =>
        rw [hc] at ic
        (repeat' fail "V")
        refine ⟨o, _, _, rfl, by rw [List.length_append, List.length_append, dl]; rfl, fun suf' e => ?_, rfl⟩
        rw [nxt suf' e, ← hd]
        have : repL (nmd ps) o (c :: suf) = c :: repL (nmd ps) o suf := by cases o <;> exact if_pos hc
        rw [this, List.map_cons, List.append_assoc]
        rfl
      | false =>
        rw [hc] at ic
        cases o with
        | none =>
          have i0 : isD .non .non = some (.d (.bl true)) := rfl
          unfold othS
          (repeat' fail "V")
          refine ⟨some c, _, _, rfl, by rw [List.length_append, List.length_append, dl]; rfl, fun suf' e => ?_, rfl⟩
          rw [nxt suf' e, ← hd]
          have : repL (nmd ps) none (c :: suf) = c :: repL (nmd ps) (some c) suf := if_neg (by rw [hc]; exact Bool.false_ne_true)
          rw [this, List.map_cons, List.append_assoc]
          rfl
        | some a =>
          have i0 := isn a
          unfold othS
          (repeat' fail "V")
          refine ⟨some a, _, _, rfl, by rw [List.length_append, List.length_append, dl]; rfl, fun suf' e => ?_, rfl⟩
          rw [nxt suf' e, ← hd]
          have : repL (nmd ps) (some a) (c :: suf) = a :: repL (nmd ps) (some a) suf := if_neg (by rw [hc]; exact Bool.false_ne_true)
          rw [this, List.map_cons, List.append_assoc]
          rfl
    · rintro _ ⟨o, done, w, fw, dl, hd, rfl⟩
      have hd := hd [] (List.append_nil _).symm
      have : (repL (nmd ps) o []) = [] := by cases o <;> rfl
      rw [this, List.map_nil, List.append_nil] at hd
      subst hd
      cases o <;> (unfold othS; (repeat' fail "V"); rfl)
  obtain ⟨a, o, h1, rfl⟩ := wF_get this
  exact ⟨o, by rw [List.map_map]; exact h1⟩
end
section
instance pk_cvU8 {i : Nat} {env : Sl} {t : Bool} {ks vs : List D} [h : EvR env[i]? (.own t (.dcu ks vs))] : EvR (pk (.cv i) env) (.dcu ks vs) := ⟨pk_cvUc h.h⟩
theorem put_eQk {s : Qs} {X : List Qs} (h : s ∉ X) : putUk (X.map eQ) (eQ s) = (X ++ [s]).map eQ := by
  unfold putUk
  rw [has_eQ, decide_eq_false h, if_neg Bool.false_ne_true, List.map_append]
  rfl
theorem put_eQv {s : Qs} {X : List Qs} {vs : List D} {y : D} (h : s ∉ X) : putUv (X.map eQ) vs (eQ s) y = vs ++ [y] := by
  unfold putUv
  rw [has_eQ, decide_eq_false h, if_neg Bool.false_ne_true]
theorem get_X {X : List Qs} {n : Nat} {s : Qs} (h : X[n]? = some s) : getD (.lst (X.map eQ)) (.int (n : Nat)) = some (.d (eQ s)) := by
  refine Dw.get_lst (L2.atI_nat ?_)
  rw [List.getElem?_map, h]
  rfl
theorem nin_U {s : Qs} {X : List Qs} {vs : List D} : notInU (eQ s) (.dcu (X.map eQ) vs) = some (.d (.bl (!decide (s ∈ X)))) := by
  rw [notInU_in (ok_eQ s), has_eQ]
theorem at_ix {s : Qs} : ∀ {X : List Qs} {k : Nat}, s ∈ X → atU (X.map eQ) ((List.range' k X.length).map fun i => D.int (i : Nat)) (eQ s) = some (.int ((k + X.idxOf s : Nat) : Int))
  | [], _, h => by cases h
  | x :: X, k, h => by
    have e : atU ((x :: X).map eQ) ((List.range' k (x :: X).length).map fun i => D.int (i : Nat)) (eQ s) = if keyU (eQ x) (eQ s) = true then some (.int (k : Nat)) else atU (X.map eQ) ((List.range' (k + 1) X.length).map fun i => D.int (i : Nat)) (eQ s) := rfl
    rw [e, key_eQ, List.idxOf_cons]
    by_cases g : x = s
    · rw [if_pos (decide_eq_true g), beq_iff_eq.mpr g]
      rfl
    · rw [decide_eq_false g, if_neg Bool.false_ne_true, beq_eq_false_iff_ne.mpr g]
      have hm : s ∈ X := by
        rcases List.mem_cons.mp h with z | z
        · exact absurd z.symm g
        · exact z
      rw [at_ix hm]
      show some (D.int ((k + 1 + X.idxOf s : Nat) : Int)) = some (D.int ((k + (X.idxOf s + 1) : Nat) : Int))
      rw [show k + 1 + X.idxOf s = k + (X.idxOf s + 1) by omega]
abbrev ixs (n : Nat) : List D := (List.range' 0 n).map fun i => D.int (i : Nat)
theorem get_ix {s : Qs} {X : List Qs} (h : s ∈ X) : getU (.dcu (X.map eQ) (ixs X.length)) (eQ s) = some (.d (.int (X.idxOf s : Nat))) := by
  show (if okKU (eQ s) = true then (atU (X.map eQ) (ixs X.length) (eQ s)).map RV.d else none) = _
  rw [if_pos (ok_eQ s), at_ix h, Nat.zero_add]
  rfl
theorem ixs_snoc (n : Nat) : ixs n ++ [.int (n : Nat)] = ixs (n + 1) := by
  unfold ixs
  rw [List.range'_concat, List.map_append]
  simp
/-- the number of a state | the rows of steps -/
def nr (ps : List (List Nat)) (s : Qs) : Nat := (bfs ps 401).idxOf s
def rowQ (ps : List (List Nat)) (s : Qs) : List D := (progLs ps).map fun c => .int (nr ps (nxq ps c s) : Nat)
theorem nr_pre {ps : List (List Nat)} (h : okPs ps) {n : Nat} (hn : n ≤ 401) {s : Qs} (hs : s ∈ bfs ps n) : (bfs ps n).idxOf s = nr ps s := by
  obtain ⟨Z, hz⟩ := bfs_pre (ps := ps) n (401 - n)
  rw [show n + (401 - n) = 401 by omega] at hz
  unfold nr
  rw [hz, List.idxOf_append, if_pos hs]
def gI (ps : List (List Nat)) (n : Nat) (e : Sl) : Prop := ∃ (w4 w5 : SV), (freeSlot (some w4) = true) ∧ freeSlot (some w5) = true ∧ n ≤ (bfs ps n).length ∧
  e = [.d (.lst (sL ps)), .own false (.lst ((bfs ps n).map eQ)), .own false (.dcu ((bfs ps n).map eQ) (ixs (bfs ps n).length)), .own false (.lst (((bfs ps n).take n).map fun s => .lst (rowQ ps s))), w4, w5]
theorem ev_graph {ps : List (List Nat)} (h : okPs ps) : ∃ o, m_state_graph [.d (.lst (sL ps))] = some (.ok (.d (.tup [.lst ((bfs ps 401).map eQ), .lst ((bfs ps 401).map fun s => .lst (rowQ ps s))])) o) := by
  have : wF (m_state_graph [.d (.lst (sL ps))]) (fun u _ => u = .d (.tup [.lst ((bfs ps 401).map eQ), .lst ((bfs ps 401).map fun s => .lst (rowQ ps s))])) nX := by
    refine w_defM rfl (by fail "S") ?_
    unfold b_state_graph
    obtain ⟨o0, s0⟩ := ev_start_state (t := []) h
    have e0 : St ps [] 0 = eQ (qs ps []) := eQ_St.symm
    rw [e0] at s0
    have g0 : getD (.lst [eQ (qs ps [])]) (.int 0) = some (.d (eQ (qs ps []))) := get_X (X := [qs ps []]) (n := 0) rfl
    (repeat' fail "V")
    refine w_dispU ?_
    (repeat' fail "V")
    refine ⟨_, rfl, ok_eQ _, ?_⟩
    (repeat' fail "V")
    refine ⟨_, _, rfl, ?_⟩
    (repeat' fail "V")
    refine w_while (fun m e => ∃ n, m + n = 401 ∧ gI ps n e) (n := 401) (by decide) ⟨0, rfl, _, _, rfl, rfl, Nat.zero_le _, rfl⟩ ?_
    rintro m _ ⟨n, hmn, w4, w5, f4, f5, hn, rfl⟩
    have hb := bfs_len h n
    have ln2 : ((bfs ps n).map eQ).length = (bfs ps n).length := List.length_map ..
    have hs : (((bfs ps n).take n).map fun s => D.lst (rowQ ps s)).length = n := by rw [List.length_map, List.length_take]; omega
    generalize hsts : ((bfs ps n).take n).map (fun s => D.lst (rowQ ps s)) = sts at hs
    (repeat' fail "V")
    · rw [ln2, hs]
      intro hlt
      have hlt : n < (bfs ps n).length := by have := of_decide_eq_true hlt; omega
      obtain ⟨s, hs1⟩ : ∃ s, (bfs ps n)[n]? = some s := ⟨_, List.getElem?_eq_getElem hlt⟩
      have hsm := List.mem_of_getElem? hs1
      obtain ⟨t, ht⟩ := bfs_qs n s hsm
      have gs := get_X hs1
      obtain ⟨o1, bh⟩ := ev_behind (t := t) h
      rw [← ht] at bh
      have hB := bfs_prog hs1
      have hb1 := bfs_len h (n + 1)
      have hn1 := bfs_pre1 (ps := ps) n
      have hB26 : ((progLs ps).map fun c => nxq ps c s).length ≤ 1000 := by
        have e : ∀ (l : List Nat) (o : Option Nat), (repL (nmd ps) o l).length = l.length := by
          intro l
          induction l with
          | nil => intro o; cases o <;> rfl
          | cons c l ih =>
            intro o
            cases o with
            | none =>
              show (if nmd ps c = true then c :: repL (nmd ps) none l else c :: repL (nmd ps) (some c) l).length = _
              split <;> (rw [List.length_cons, ih]; rfl)
            | some a =>
              show (if nmd ps c = true then c :: repL (nmd ps) (some a) l else a :: repL (nmd ps) (some a) l).length = _
              split <;> (rw [List.length_cons, ih]; rfl)
        rw [List.length_map, e]
        decide
      have hrow : rowQ ps s = ((progLs ps).map fun c => nxq ps c s).map fun y => .int (nr ps y : Nat) := by
        unfold rowQ
        rw [List.map_map]
        rfl
      generalize ((progLs ps).map fun c => nxq ps c s) = B at bh hB hB26 hrow
      have itB : itemsD (.lst (B.map eQ)) = some (B.map eQ) := rfl
      generalize hLB : D.lst (B.map eQ) = LB at itB
      have gs2 : getD (.lst ((bfs ps n).map eQ)) (.int (sts.length : Nat)) = some (.d (eQ s)) := by rw [hs]; exact gs
      unfold l_state_graph_3
      (repeat' fail "V")
      refine w_loopM (d := eQ) (l := B) (fun pre e => ∃ (w5 : SV), freeSlot (some w5) = true ∧ e = [.d (.lst (sL ps)), .own false (.lst ((addQ (bfs ps n) pre).map eQ)), .own false (.dcu ((addQ (bfs ps n) pre).map eQ) (ixs (addQ (bfs ps n) pre).length)), .own false (.lst sts), .d (.lst (B.map eQ)), w5]) ⟨w5, f5, rfl⟩ ?_ ?_
      · rintro pre x suf _ hx ⟨w6, f6, rfl⟩
        have e1 : addQ (bfs ps n) (pre ++ [x]) = add1 (addQ (bfs ps n) pre) x := by unfold addQ; rw [List.foldl_append]; rfl
        have hl : (addQ (bfs ps n) pre).length ≤ 385 := by
          have e2 : bfs ps (n + 1) = addQ (addQ (bfs ps n) pre) (x :: suf) := by rw [hB, hx]; unfold addQ; rw [List.foldl_append]
          obtain ⟨Z, hz⟩ := addQ_pre (x :: suf) (addQ (bfs ps n) pre)
          rw [e2, hz, List.length_append] at hb1
          omega
        rw [e1]
        generalize addQ (bfs ps n) pre = X at hl
        refine ⟨[.d (.lst (sL ps)), .own false (.lst (X.map eQ)), .own false (.dcu (X.map eQ) (ixs X.length)), .own false (.lst sts), .d (.lst (B.map eQ)), .d (eQ x)], put_nm f6 rfl, ?_⟩
        have ni := nin_U (s := x) (X := X) (vs := ixs X.length)
        have lnX : (X.map eQ).length = X.length := List.length_map ..
        have e400 : (((X.map eQ).length : Int) == 400) = false := beq_eq_false_iff_ne.mpr (by rw [lnX]; omega)
        have hl2 : (X.map eQ).length ≤ 400 := by omega
        unfold l_state_graph_1
        by_cases hm : x ∈ X
        · rw [decide_eq_true hm] at ni
          (repeat' fail "V")
          rw [add1_in hm]
          exact ⟨_, rfl, rfl⟩
        · rw [decide_eq_false hm] at ni
          (repeat' fail "V")
          refine w_setUS ?_
          (repeat' fail "V")
          refine ⟨_, _, _, _, _, rfl, rfl, ?_⟩
          (repeat' fail "V")
          refine ⟨_, _, _, _, [.d (.lst (sL ps)), .own false (.lst (X.map eQ)), .own false (.dcu ((X ++ [x]).map eQ) (ixs (X.length + 1))), .own false (.lst sts), .d (.lst (B.map eQ)), .d (eQ x)], rfl, rfl, ⟨ok_eQ x, Nat.lt_of_le_of_lt hl2 (by decide)⟩, by rw [put_eQk hm, put_eQv hm, lnX, ixs_snoc]; rfl, ?_⟩
          (repeat' fail "V")
          rw [add1_new hm]
          exact ⟨_, rfl, by rw [List.map_append, List.length_append]; rfl⟩
      · rintro _ ⟨w6, f6, rfl⟩
        rw [← hB]
        have hall : ∀ x ∈ B, x ∈ bfs ps (n + 1) := fun x hx => by rw [hB]; exact addQ_mem hx
        have hBl : (B.map eQ).length ≤ 1000 := by rw [List.length_map]; exact hB26
        have cmp := w_compM (vs := [5]) (tg := .nm 5) (fe := e_state_graph_2) (d := eQ) (g := fun y => D.int (nr ps y : Nat)) (l := B) (e0 := [.d (.lst (sL ps)), .own false (.lst ((bfs ps (n + 1)).map eQ)), .own false (.dcu ((bfs ps (n + 1)).map eQ) (ixs (bfs ps (n + 1)).length)), .own false (.lst sts), .d (.lst (B.map eQ)), .un]) (by omega) (fun y hy => by
            have gv := get_ix (hall y hy)
            rw [nr_pre h (by omega) (hall y hy)] at gv
            refine ⟨[.d (.lst (sL ps)), .own false (.lst ((bfs ps (n + 1)).map eQ)), .own false (.dcu ((bfs ps (n + 1)).map eQ) (ixs (bfs ps (n + 1)).length)), .own false (.lst sts), .d (.lst (B.map eQ)), .d (eQ y)], put_nm rfl rfl, ?_⟩
            unfold e_state_graph_2
            (repeat' fail "V")
            exact ⟨_, rfl, rfl⟩)
        rw [← hrow] at cmp
        have itB : itemsD (.lst (B.map eQ)) = some (B.map eQ) := rfl
        have hs2 : sts.length ≤ 401 := by omega
        (repeat' fail "V")
        refine Dw.w_comp1 (env2 := [.d (.lst (sL ps)), .own false (.lst ((bfs ps (n + 1)).map eQ)), .own false (.dcu ((bfs ps (n + 1)).map eQ) (ixs (bfs ps (n + 1)).length)), .own false (.lst sts), .d (.lst (B.map eQ)), keepD (some w6)]) cmp rfl ?_
        (repeat' fail "V")
        refine ⟨m - 1, by omega, n + 1, by omega, .d (.lst (B.map eQ)), keepD (some w6), rfl, ?_, ?_, ?_⟩
        · cases w6 <;> rfl
        · obtain ⟨Z, hz⟩ := hn1
          rw [hz, List.length_append]
          omega
        · have e9 : ((bfs ps (n + 1)).take (n + 1)).map (fun s => D.lst (rowQ ps s)) = sts ++ [.lst (rowQ ps s)] := by
            obtain ⟨Z, hz⟩ := hn1
            rw [hz, List.take_append_of_le_length (by omega), List.take_add_one, hs1, List.map_append, hsts]
            rfl
          rw [e9]
    · rw [ln2, hs]
      intro hge
      have hge : (bfs ps n).length ≤ n := by have := of_decide_eq_false hge; omega
      have e8 : ((bfs ps n).take n) = bfs ps n := List.take_of_length_le hge
      rw [e8] at hsts
      rw [← hsts]
      (repeat' fail "V")
      rw [bfs_done h hge]
  obtain ⟨a, o, h1, rfl⟩ := wF_get this
  exact ⟨o, h1⟩
end
section
def cB (ps : List (List Nat)) (s : Qs) : List Bool := List.zipWith (fun p l => decide ((p.length : Int) ∈ l)) ps s
def aN (ps : List (List Nat)) (w : List Bool) : Nat → Qs → Bool
  | 0, s => decide (cB ps s = w)
  | n + 1, s => letters.any fun c => aN ps w n (nxq ps c s)
theorem rep_same {ps : List (List Nat)} (s : Qs) : ∀ (l : List Nat) (o : Option Nat), (∀ a, o = some a → nmd ps a = false) → (repL (nmd ps) o l).map (fun c => nxq ps c s) = l.map fun c => nxq ps c s
  | [], _, _ => by rw [repL]
  | c :: l, o, h => by
    cases hc : nmd ps c with
    | true =>
      have : repL (nmd ps) o (c :: l) = c :: repL (nmd ps) o l := by cases o <;> exact if_pos hc
      rw [this, List.map_cons, List.map_cons, rep_same s l o h]
    | false =>
      cases o with
      | none =>
        have : repL (nmd ps) none (c :: l) = c :: repL (nmd ps) (some c) l := if_neg (by rw [hc]; exact Bool.false_ne_true)
        rw [this, List.map_cons, List.map_cons, rep_same s l (some c) (fun a e => by cases e; exact hc)]
      | some a =>
        have : repL (nmd ps) (some a) (c :: l) = a :: repL (nmd ps) (some a) l := if_neg (by rw [hc]; exact Bool.false_ne_true)
        rw [this, List.map_cons, List.map_cons, rep_same s l (some a) h, nxq_un (of_decide_eq_false (h a rfl)) (of_decide_eq_false hc) s]
theorem row_all {ps : List (List Nat)} (s : Qs) : rowQ ps s = letters.map fun c => .int (nr ps (nxq ps c s) : Nat) := by
  have := rep_same (ps := ps) s letters none (fun a e => by cases e)
  unfold rowQ
  have e : ∀ l : List Nat, (l.map fun c => D.int (nr ps (nxq ps c s) : Nat)) = (l.map fun c => nxq ps c s).map fun y => D.int (nr ps y : Nat) := fun l => by rw [List.map_map]; rfl
  rw [e, e, this]
/-- a text of at most i letters leads to the state at i -/
theorem bfs_depth {ps : List (List Nat)} : ∀ (n i : Nat) (x : Qs), (bfs ps n)[i]? = some x → ∃ t, t.length ≤ i ∧ (∀ c ∈ t, c ∈ letters) ∧ x = qs ps t
  | 0, i, x, h => by
    rw [bfs] at h
    cases i with
    | zero => cases h; exact ⟨[], Nat.le_refl _, fun c hc => (List.not_mem_nil hc).elim, rfl⟩
    | succ i => cases h
  | n + 1, i, x, h => by
    cases hs : (bfs ps n)[n]? with
    | none => rw [bfs_none hs] at h; exact bfs_depth n i x h
    | some s =>
      rw [bfs_some hs] at h
      by_cases hi : i < (bfs ps n).length
      · obtain ⟨Z, hz⟩ := addQ_pre ((lawLs ps).map fun c => nxq ps c s) (bfs ps n)
        rw [hz, List.getElem?_append_left hi] at h
        exact bfs_depth n i x h
      · have hn := (List.getElem?_eq_some_iff.mp hs).1
        have hx : x ∈ addQ (bfs ps n) ((lawLs ps).map fun c => nxq ps c s) := List.mem_of_getElem? h
        obtain ⟨t, h1, h2, rfl⟩ := bfs_depth n n s hs
        have lsub : ∀ (l : List Nat) (b : Bool) (c : Nat), c ∈ letL (nmd ps) b l → c ∈ l := by
          intro l
          induction l with
          | nil => intro b c h; exact h
          | cons y l ih =>
            intro b c h
            rw [letL] at h
            split at h
            · rcases List.mem_cons.mp h with z | z
              · exact z ▸ List.mem_cons_self ..
              · exact List.mem_cons_of_mem _ (ih _ _ z)
            · exact List.mem_cons_of_mem _ (ih _ _ h)
        have := addQ_all (P := fun x => (∃ j, j < (bfs ps n).length ∧ (bfs ps n)[j]? = some x) ∨ ∃ c ∈ letters, x = nxq ps c (qs ps t)) (l := (lawLs ps).map fun c => nxq ps c (qs ps t)) (X := bfs ps n) (fun y hy => by
          obtain ⟨j, hj⟩ := List.mem_iff_getElem?.mp hy
          exact .inl ⟨j, (List.getElem?_eq_some_iff.mp hj).1, hj⟩) (fun y hy => by
          obtain ⟨c, hc, rfl⟩ := List.mem_map.mp hy
          exact .inr ⟨c, lsub _ _ _ hc, rfl⟩) x hx
        rcases this with ⟨j, hj, hx⟩ | ⟨c, hc, rfl⟩
        · obtain ⟨u, u1, u2, u3⟩ := bfs_depth n j x hx
          exact ⟨u, by omega, u2, u3⟩
        · refine ⟨t ++ [c], by rw [List.length_append, List.length_singleton]; omega, fun d hd => ?_, nxq_qs⟩
          rcases List.mem_append.mp hd with z | z
          · exact h2 d z
          · rw [List.mem_singleton.mp z]; exact hc
section
variable {ps : List (List Nat)} {w : List Bool}
theorem aN_up {m : Nat} : ∀ (n : Nat) (t : List Nat), t.length = n → (∀ c ∈ t, c ∈ letters) → aN ps w m (qs ps t) = true → aN ps w (m + n) (qs ps []) = true
  | 0, t, e, _, h => by
    have : t = [] := List.eq_nil_of_length_eq_zero e
    subst this
    exact h
  | n + 1, t, e, ht, h => by
    rcases List.eq_nil_or_concat t with z | ⟨t', c', z⟩
    · rw [z] at e; cases e
    · rw [List.concat_eq_append] at z
      subst z
      have := aN_up (m := m + 1) n t' (by rw [List.length_append, List.length_singleton] at e; omega) (fun c hc => ht c (List.mem_append_left _ hc)) (by
        rw [aN, List.any_eq_true]
        exact ⟨c', ht c' (by simp), by rw [nxq_qs]; exact h⟩)
      rw [show m + (n + 1) = m + 1 + n by omega]
      exact this
/-- some state reaches it in n letters -/
def anyA (ps : List (List Nat)) (w : List Bool) (n : Nat) : Prop := ∃ s ∈ bfs ps 401, aN ps w n s = true
theorem anyA_down (h : okPs ps) {n : Nat} (g : anyA ps w (n + 1)) : anyA ps w n := by
  obtain ⟨s, hs, g⟩ := g
  rw [aN, List.any_eq_true] at g
  obtain ⟨c, hc, g⟩ := g
  exact ⟨_, bfs_closed h hs hc, g⟩
theorem anyA_sub (h : okPs ps) {n : Nat} : ∀ k, anyA ps w (n + k) → anyA ps w n
  | 0, g => g
  | k + 1, g => anyA_sub h k (anyA_down h g)
/-- so often the start reaches it, below n -/
def cnt (ps : List (List Nat)) (w : List Bool) (n : Nat) : Nat := ((List.range n).filter fun i => aN ps w i (qs ps [])).length
theorem cnt_succ {n : Nat} : cnt ps w (n + 1) = cnt ps w n + if aN ps w n (qs ps []) = true then 1 else 0 := by
  unfold cnt
  rw [List.range_succ, List.filter_append, List.length_append]
  cases h : aN ps w n (qs ps []) <;> simp [h]
theorem cnt_mono {n : Nat} : ∀ k, cnt ps w n ≤ cnt ps w (n + k)
  | 0 => Nat.le_refl _
  | k + 1 => by
    have := cnt_mono (n := n) k
    rw [show n + (k + 1) = (n + k) + 1 by omega, cnt_succ]
    omega
theorem cnt_ge (h : okPs ps) : ∀ (j n : Nat), 385 * j ≤ n → anyA ps w n → j ≤ cnt ps w n
  | 0, _, _, _ => Nat.zero_le _
  | j + 1, n, hn, g => by
    have g0 : anyA ps w (n - 385) := anyA_sub h 385 (by rw [show n - 385 + 385 = n by omega]; exact g)
    have ih := cnt_ge h j (n - 385) (by omega) g0
    obtain ⟨s, hs, g⟩ := g0
    obtain ⟨i, hi⟩ := List.mem_iff_getElem?.mp hs
    have hl := bfs_len h 401
    have hil := (List.getElem?_eq_some_iff.mp hi).1
    obtain ⟨t, t1, t2, rfl⟩ := bfs_depth 401 i s hi
    have up := aN_up _ t rfl t2 g
    have c1 : cnt ps w (n - 385) ≤ cnt ps w (n - 385 + t.length) := cnt_mono _
    have c2 : cnt ps w (n - 385 + t.length + 1) = cnt ps w (n - 385 + t.length) + 1 := by rw [cnt_succ, if_pos up]
    have c3 : cnt ps w (n - 385 + t.length + 1) ≤ cnt ps w n := by
      have := cnt_mono (ps := ps) (w := w) (n := n - 385 + t.length + 1) (n - (n - 385 + t.length + 1))
      rwa [show n - 385 + t.length + 1 + (n - (n - 385 + t.length + 1)) = n by omega] at this
    omega
end
def stepT (ps : List (List Nat)) (w : List Bool) (k m : Nat) (rows : List (List Nat)) : List (List Nat) := (rows.flatMap fun t => (letters.filter fun c => aN ps w m (qs ps (t ++ [c]))).map fun c => t ++ [c]).take k
def rowsT (ps : List (List Nat)) (w : List Bool) (k n : Nat) : Nat → List (List Nat)
  | 0 => if aN ps w n (qs ps []) = true then [[]] else []
  | i + 1 => stepT ps w k (n - 1 - i) (rowsT ps w k n i)
def TL (ps : List (List Nat)) (w : List Bool) (k n : Nat) : List (List Nat) := rowsT ps w k n n
section
variable {ps : List (List Nat)} {w : List Bool}
theorem rows_len {k n : Nat} : ∀ i, ∀ t ∈ rowsT ps w k n i, t.length = i ∧ ∀ c ∈ t, c ∈ letters
  | 0, t, h => by
    rw [rowsT] at h
    split at h
    · rw [List.mem_singleton] at h; subst h; exact ⟨rfl, fun c hc => (List.not_mem_nil hc).elim⟩
    · cases h
  | i + 1, t, h => by
    rw [rowsT, stepT] at h
    obtain ⟨u, hu, h⟩ := List.mem_flatMap.mp (List.mem_of_mem_take h)
    obtain ⟨c, hc, rfl⟩ := List.mem_map.mp h
    obtain ⟨h1, h2⟩ := rows_len i u hu
    refine ⟨by rw [List.length_append, h1]; rfl, fun d hd => ?_⟩
    rcases List.mem_append.mp hd with z | z
    · exact h2 d z
    · rw [List.mem_singleton.mp z]; exact (List.mem_filter.mp hc).1
theorem rows_a {k n : Nat} : ∀ i, i ≤ n → ∀ t ∈ rowsT ps w k n i, aN ps w (n - i) (qs ps t) = true
  | 0, _, t, h => by
    rw [rowsT] at h
    split at h
    · rename_i g
      rw [List.mem_singleton] at h; subst h; exact g
    · cases h
  | i + 1, hi, t, h => by
    rw [rowsT, stepT] at h
    obtain ⟨u, hu, h⟩ := List.mem_flatMap.mp (List.mem_of_mem_take h)
    obtain ⟨c, hc, rfl⟩ := List.mem_map.mp h
    rw [show n - (i + 1) = n - 1 - i by omega]
    exact (List.mem_filter.mp hc).2
theorem rows_pos {k n : Nat} (hk : 0 < k) (g : aN ps w n (qs ps []) = true) : ∀ i, i ≤ n → rowsT ps w k n i ≠ []
  | 0, _ => by rw [rowsT, if_pos g]; exact List.cons_ne_nil _ _
  | i + 1, hi => by
    have ih := rows_pos hk g i (by omega)
    obtain ⟨t, ht⟩ := List.exists_mem_of_ne_nil _ ih
    have ha := rows_a (k := k) i (by omega) t ht
    rw [show n - i = (n - 1 - i) + 1 by omega, aN, List.any_eq_true] at ha
    obtain ⟨c, hc, ha⟩ := ha
    rw [nxq_qs] at ha
    rw [rowsT, stepT]
    intro e
    have hm : t ++ [c] ∈ ((rowsT ps w k n i).flatMap fun t => (letters.filter fun c => aN ps w (n - 1 - i) (qs ps (t ++ [c]))).map fun c => t ++ [c]) :=
      List.mem_flatMap.mpr ⟨t, ht, List.mem_map.mpr ⟨c, List.mem_filter.mpr ⟨hc, ha⟩, rfl⟩⟩
    have := List.take_eq_nil_iff.mp e
    rcases this with z | z
    · omega
    · rw [z] at hm; cases hm
theorem rows_cnt {k n : Nat} (hk : 0 < k) : ∀ i, (rowsT ps w k n i).length ≤ k
  | 0 => by rw [rowsT]; split <;> simp; omega
  | i + 1 => by rw [rowsT, stepT, List.length_take]; omega
end
end
section
theorem cB_qs {ps : List (List Nat)} {t : List Nat} : cB ps (qs ps t) = ps.map fun p => decide ((p.length : Int) ∈ Ls p t t.length) := by
  unfold cB qs
  induction ps with
  | nil => rfl
  | cons p ps ih => rw [List.map_cons, List.zipWith_cons_cons, List.map_cons, ih]
def clD (ps : List (List Nat)) (s : Qs) : D := .tup ((cB ps s).map .bl)
theorem ev_acc {ps : List (List Nat)} {t : List Nat} (h : okPs ps) : ∃ o, m_accepted [.d (.lst (sL ps)), .d (eQ (qs ps t))] = some (.ok (.d (clD ps (qs ps t))) o) := by
  have : wF (m_accepted [.d (.lst (sL ps)), .d (eQ (qs ps t))]) (fun u _ => u = .d (clD ps (qs ps t))) nX := by
    refine w_defM rfl (by fail "S") ?_
    unfold b_accepted
    have eE : eQ (qs ps t) = .tup (ps.map fun p => .tup (dI (Ls p t t.length))) := by rw [eQ_St]; rfl
    rw [eE]
    have cmp : compD [2, 3] (.two 2 3) none e_accepted_1 (zipL (sL ps) (ps.map fun p => .tup (dI (Ls p t t.length)))) [] [.d (.lst (sL ps)), .d (.tup (ps.map fun p => .tup (dI (Ls p t t.length)))), .un, .un] = some (ps.map fun p => .bl (decide ((p.length : Int) ∈ Ls p t t.length)), [.d (.lst (sL ps)), .d (.tup (ps.map fun p => .tup (dI (Ls p t t.length)))), .un, .un]) := by
      rw [sL, zipL_map]
      refine w_compM (by have := h.1; omega) fun p hp => ?_
      have hpl : p.length ≤ sizeLine := Nat.le_trans (h.2 p hp).1 (by decide)
      have it := in_tupI (z := (p.length : Int)) (ls := Ls p t t.length)
      generalize dI (Ls p t t.length) = L at it
      refine ⟨[.d (.lst (ps.map D.str)), .d (.tup (ps.map fun p => .tup (dI (Ls p t t.length)))), .d (.str p), .d (.tup L)], by fail "S", ?_⟩
      unfold e_accepted_1
      (repeat' fail "V")
      exact ⟨_, rfl, rfl⟩
    have e5 : tupleC [.lst (ps.map fun p => D.bl (decide ((p.length : Int) ∈ Ls p t t.length)))] = some (.d (clD ps (qs ps t))) := by
      unfold clD
      rw [cB_qs, List.map_map]
      rfl
    have sz1 : seqZ (.lst (sL ps)) = some (false, sL ps) := rfl
    have sz2 : seqZ (.tup (ps.map fun p => D.tup (dI (Ls p t t.length)))) = some (true, ps.map fun p => D.tup (dI (Ls p t t.length))) := rfl
    generalize (ps.map fun p => D.tup (dI (Ls p t t.length))) = M at cmp sz2
    generalize sL ps = LP at cmp sz1
    (repeat' fail "V")
    refine Dw.w_comp1 (env2 := [.d (.lst LP), .d (.tup M), .un, .un]) cmp rfl ?_
    (repeat' fail "V")
    rfl
  obtain ⟨a, o, h1, rfl⟩ := wF_get this
  exact ⟨o, h1⟩
theorem ev_classes {ps : List (List Nat)} (h : okPs ps) {F : List Qs} (hF : ∀ s ∈ F, ∃ t, s = qs ps t) (hb : F.length ≤ 1000) : ∃ o, m_classes_of_states [.d (.lst (sL ps)), .d (.lst (F.map eQ))] = some (.ok (.own (.lst (F.map (clD ps)))) o) := by
  have : wF (m_classes_of_states [.d (.lst (sL ps)), .d (.lst (F.map eQ))]) (fun u _ => u = .own (.lst (F.map (clD ps)))) nX := by
    refine w_defM rfl (by fail "S") ?_
    unfold b_classes_of_states
    have cmp := w_compM (vs := [2]) (tg := .nm 2) (fe := e_classes_of_states_1) (d := eQ) (g := clD ps) (l := F) (e0 := [.d (.lst (sL ps)), .d (.lst (F.map eQ)), .un]) (by omega) (fun s hs => by
      obtain ⟨t, rfl⟩ := hF s hs
      obtain ⟨o, e⟩ := ev_acc (t := t) h
      refine ⟨[.d (.lst (sL ps)), .d (.lst (F.map eQ)), .d (eQ (qs ps t))], put_nm rfl rfl, ?_⟩
      unfold e_classes_of_states_1
      (repeat' fail "V")
      exact ⟨_, rfl, rfl⟩)
    have it : itemsD (.lst (F.map eQ)) = some (F.map eQ) := rfl
    generalize F.map eQ = M at cmp it
    (repeat' fail "V")
    refine Dw.w_comp1 (env2 := [.d (.lst (sL ps)), .d (.lst M), .un]) cmp rfl ?_
    (repeat' fail "V")
    rfl
  obtain ⟨a, o, h1, rfl⟩ := wF_get this
  exact ⟨o, h1⟩
end
section
section
variable {ps : List (List Nat)} {w : List Bool} {F : List Qs}
def stG (F : List Qs) (ps : List (List Nat)) : D := .lst (F.map fun s => .lst (letters.map fun c => .int (F.idxOf (nxq ps c s) : Nat)))
def ahG (F : List Qs) (ps : List (List Nat)) (w : List Bool) (i : Nat) : D := .lst (F.map fun s => .bl (aN ps w i s))
def rwG (F : List Qs) (ps : List (List Nat)) (t : List Nat) : D := .tup [.str t, .int (F.idxOf (qs ps t) : Nat)]
theorem get_F {f : Qs → D} {s : Qs} (hs : s ∈ F) : getD (.lst (F.map f)) (.int (F.idxOf s : Nat)) = some (.d (f s)) := by
  refine Dw.get_lst (L2.atI_nat ?_)
  have := List.idxOf_lt_length_of_mem hs
  rw [List.getElem?_map, List.getElem?_eq_getElem this, List.getElem_idxOf]
  rfl
theorem get_0g {f : Qs → D} {s : Qs} (h : F[0]? = some s) : getD (.lst (F.map f)) (.int 0) = some (.d (f s)) := by
  cases F with
  | nil => cases h
  | cons a F =>
    cases h
    exact Dw.get_lst (L2.atI_nat (j := 0) rfl)
theorem get_last {f : Nat → D} {n : Nat} : getD (.lst ((List.range (n + 1)).map f)) (.int (-1)) = some (.d (f n)) := by
  refine Dw.get_lst ?_
  unfold L2.atI
  rw [List.length_map, List.length_range]
  have : L2.ixN (n + 1) (-1) = some n := by
    unfold L2.ixN
    simp
    omega
  rw [this, Option.bind_some, List.getElem?_map, List.getElem?_range (by omega)]
  rfl
theorem cut_last {f : Nat → D} {n : Nat} : cutD (.lst ((List.range (n + 1)).map f)) none (some (-1)) = some (.own (.lst ((List.range n).map f))) := by
  show some (RV.own (.lst (cutL _ _ _))) = _
  congr 3
  unfold cutL
  rw [HT.sIx_none, List.length_map, List.length_range, List.drop_zero, Nat.sub_zero, ← List.map_take, List.take_range]
  congr 2
  unfold HT.sIx
  simp
  omega
end
end
section
section
variable {ps : List (List Nat)} {w : List Bool} {F : List Qs}
theorem put_two {i j : Nat} {x y : D} {env env1 env2 : Sl} (h1 : freeSlot env[i]? = true) (e1 : env.set i (.d x) = env1) (h2 : freeSlot env1[j]? = true) (e2 : env1.set j (.d y) = env2) : putT (.two i j) (.tup [x, y]) env = some env2 := by
  subst e1 e2
  show ((setSlot i (.d x) env).bind (setSlot j (.d y))) = _
  unfold setSlot
  rw [if_pos h1, Option.bind_some, if_pos h2]
theorem zip_let {f : Nat → D} : ∀ l : List Nat, zipL (l.map fun c => .str [c]) (l.map f) = l.map fun c => .tup [.str [c], f c]
  | [] => rfl
  | c :: l => by rw [List.map_cons, List.map_cons, zipL, zip_let l]; rfl
theorem ev_tol (hq : ∀ t, qs ps t ∈ F → ∀ c ∈ letters, qs ps (t ++ [c]) ∈ F) (h0 : F[0]? = some (qs ps [])) {n k : Nat} (hk : 0 < k) (hk2 : k ≤ 1000) (hn : n ≤ 50000) :
    ∃ o, m_texts_of_length [.d (stG F ps), .own true (.lst ((List.range (n + 1)).map (ahG F ps w))), .d (.int (k : Nat))] = some (.ok (.own (.lst ((TL ps w k n).map .str))) o) ∧ o[1]? = some (.own true (.lst ((List.range (n + 1)).map (ahG F ps w)))) := by
  have : wF (m_texts_of_length [.d (stG F ps), .own true (.lst ((List.range (n + 1)).map (ahG F ps w))), .d (.int (k : Nat))]) (fun u o => u = .own (.lst ((TL ps w k n).map .str)) ∧ o[1]? = some (.own true (.lst ((List.range (n + 1)).map (ahG F ps w))))) nX := by
    refine w_defM rfl (by fail "S") ?_
    unfold b_texts_of_length
    have g1 := get_last (f := ahG F ps w) (n := n)
    have c1 := cut_last (f := ahG F ps w) (n := n)
    have g2 : getD (ahG F ps w n) (.int 0) = some (.d (.bl (aN ps w n (qs ps [])))) := get_0g h0
    have hF0 : qs ps [] ∈ F := List.mem_of_getElem? h0
    have ix0 : F.idxOf (qs ps []) = 0 := by
      cases F with
      | nil => cases h0
      | cons a F => cases h0; simp
    have inF : ∀ i, ∀ t ∈ rowsT ps w k n i, qs ps t ∈ F := fun i => by
      induction i with
      | zero =>
        intro t ht
        have := rows_len 0 t ht
        have e : t = [] := List.eq_nil_of_length_eq_zero this.1
        rw [e]; exact hF0
      | succ i ih =>
        intro t ht
        rw [rowsT, stepT] at ht
        obtain ⟨u, hu, ht⟩ := List.mem_flatMap.mp (List.mem_of_mem_take ht)
        obtain ⟨c, hc, rfl⟩ := List.mem_map.mp ht
        exact hq u (ih u hu) c (List.mem_filter.mp hc).1
    have hst : ∀ t, qs ps t ∈ F → getD (stG F ps) (.int (F.idxOf (qs ps t) : Nat)) = some (.d (.lst (letters.map fun c => .int (F.idxOf (qs ps (t ++ [c])) : Nat)))) := fun t ht => by
      have := get_F (f := fun s => D.lst (letters.map fun c => .int (F.idxOf (nxq ps c s) : Nat))) ht
      simp only [nxq_qs] at this
      exact this
    have hah : ∀ m t, qs ps t ∈ F → getD (ahG F ps w m) (.int (F.idxOf (qs ps t) : Nat)) = some (.d (.bl (aN ps w m (qs ps t)))) := fun m t ht => get_F (f := fun s => D.bl (aN ps w m s)) ht
    generalize hAH : (List.range (n + 1)).map (ahG F ps w) = AH at g1 c1
    generalize stG F ps = ST at hst
    have ng : negD (.int 1) = some (.d (.int (-1))) := rfl
    refine w_seqP (fun e => e = [.d ST, .own true (.lst AH), .d (.int (k : Nat)), .own false (.lst ((rowsT ps w k n 0).map (rwG F ps))), .un, .un, .un, .un, .un, .un, .un]) ?_ ?_
    · (repeat' fail "V")
      all_goals (intro hb; rw [rowsT, hb])
      · (repeat' fail "V")
        rw [if_pos rfl]
        show _ = [SV.d ST, .own true (.lst AH), .d (.int (k : Nat)), .own false (.lst [.tup [.str [], .int (F.idxOf (qs ps []) : Nat)]]), .un, .un, .un, .un, .un, .un, .un]
        rw [ix0]
        rfl
      · (repeat' fail "V")
        rw [if_neg Bool.false_ne_true]
        rfl
    rintro _ rfl
    (repeat' fail "V")
    refine w_revI ?_
    (repeat' fail "V")
    refine ⟨_, _, rfl, ?_⟩
    refine w_loopI (fun i e => ∃ (w4 w5 w6 w7 w8 w9 : SV), freeSlot (some w4) = true ∧ freeSlot (some w5) = true ∧ freeSlot (some w6) = true ∧ freeSlot (some w7) = true ∧ freeSlot (some w8) = true ∧ freeSlot (some w9) = true ∧
      e = [.d ST, .own true (.lst AH), .d (.int (k : Nat)), .own false (.lst ((rowsT ps w k n i).map (rwG F ps))), w4, w5, w6, w7, w8, w9, .un]) ⟨_, _, _, _, _, _, rfl, rfl, rfl, rfl, rfl, rfl, rfl⟩ ?_ ?_
    · rintro i x _ hx ⟨w4, w5, w6, w7, w8, w9, f4, f5, f6, f7, f8, f9, rfl⟩
      obtain ⟨hi, rfl⟩ : i < n ∧ x = ahG F ps w (n - 1 - i) := by
        have hl : i < ((List.range n).map (ahG F ps w)).length := by
          have := (List.getElem?_eq_some_iff.mp hx).1
          rwa [List.length_reverse] at this
        have hl2 : i < n := by simpa using hl
        rw [List.getElem?_reverse hl, List.length_map, List.length_range, List.getElem?_map, List.getElem?_range (by omega)] at hx
        exact ⟨hl2, (Option.some.inj hx).symm⟩
      refine ⟨[.d ST, .own true (.lst AH), .d (.int (k : Nat)), .own false (.lst ((rowsT ps w k n i).map (rwG F ps))), .d (ahG F ps w (n - 1 - i)), w5, w6, w7, w8, w9, .un], put_nm f4 rfl, ?_⟩
      have hin := inF i
      have hlen := rows_len (ps := ps) (w := w) (k := k) (n := n) i
      have hcn := rows_cnt (ps := ps) (w := w) (k := k) (n := n) hk i
      have hst2 : rowsT ps w k n (i + 1) = stepT ps w k (n - 1 - i) (rowsT ps w k n i) := by rw [rowsT]
      rw [hst2]
      have hah := hah (n - 1 - i)
      generalize ahG F ps w (n - 1 - i) = AM at hah
      generalize n - 1 - i = m at hah
      generalize rowsT ps w k n i = rows at hin hlen hcn
      have itR : itemsD (.lst (rows.map (rwG F ps))) = some (rows.map (rwG F ps)) := rfl
      unfold l_texts_of_length_3
      (repeat' fail "V")
      refine w_loopM (d := rwG F ps) (l := rows) (fun pre e => ∃ (w6 w7 w8 w9 : SV), freeSlot (some w6) = true ∧ freeSlot (some w7) = true ∧ freeSlot (some w8) = true ∧ freeSlot (some w9) = true ∧
        e = [.d ST, .own true (.lst AH), .d (.int (k : Nat)), .d (.lst (rows.map (rwG F ps))), .d AM, .own false (.lst ((pre.flatMap fun t => (letters.filter fun c => aN ps w m (qs ps (t ++ [c]))).map fun c => t ++ [c]).map (rwG F ps))), w6, w7, w8, w9, .un]) ⟨w6, w7, w8, w9, f6, f7, f8, f9, rfl⟩ ?_ ?_
      · rintro pre t suf _ hx2 ⟨w6, w7, w8, w9, f6, f7, f8, f9, rfl⟩
        have htm : t ∈ rows := by rw [hx2]; exact List.mem_append_right _ (List.mem_cons_self ..)
        have htF := hin t htm
        have hst3 := hst t htF
        have htl := (hlen t htm).1
        refine ⟨[.d ST, .own true (.lst AH), .d (.int (k : Nat)), .d (.lst (rows.map (rwG F ps))), .d AM, .own false (.lst ((pre.flatMap fun t => (letters.filter fun c => aN ps w m (qs ps (t ++ [c]))).map fun c => t ++ [c]).map (rwG F ps))), .d (.str t), .d (.int (F.idxOf (qs ps t) : Nat)), w8, w9, .un], put_two (x := .str t) (y := .int (F.idxOf (qs ps t) : Nat)) f6 rfl f7 rfl, ?_⟩
        have hpl : (pre.flatMap fun t => (letters.filter fun c => aN ps w m (qs ps (t ++ [c]))).map fun c => t ++ [c]).length ≤ 26 * pre.length := by
          clear hx2
          induction pre with
          | nil => simp
          | cons a pre ih =>
            rw [List.flatMap_cons, List.length_append, List.length_map, List.length_cons]
            have : (letters.filter fun c => aN ps w m (qs ps (a ++ [c]))).length ≤ letters.length := List.length_filter_le _ _
            have e26 : letters.length = 26 := rfl
            omega
        have hpr : pre.length ≤ 1000 := by rw [hx2, List.length_append] at hcn; omega
        have e1 : (pre ++ [t]).flatMap (fun t => (letters.filter fun c => aN ps w m (qs ps (t ++ [c]))).map fun c => t ++ [c]) = (pre.flatMap fun t => (letters.filter fun c => aN ps w m (qs ps (t ++ [c]))).map fun c => t ++ [c]) ++ (letters.filter fun c => aN ps w m (qs ps (t ++ [c]))).map fun c => t ++ [c] := by
          rw [List.flatMap_append]
          simp
        rw [e1]
        generalize (pre.flatMap fun t => (letters.filter fun c => aN ps w m (qs ps (t ++ [c]))).map fun c => t ++ [c]) = L0 at hpl
        unfold l_texts_of_length_2
        (repeat' fail "V")
        refine w_zipS ?_
        (repeat' fail "V")
        refine ⟨letters, _, _, rfl, by rw [List.length_map], ?_⟩
        rw [zip_let]
        refine w_loopM (d := fun c => D.tup [.str [c], .int (F.idxOf (qs ps (t ++ [c])) : Nat)]) (l := letters) (fun pre e => ∃ (w8 w9 : SV), freeSlot (some w8) = true ∧ freeSlot (some w9) = true ∧
          e = [.d ST, .own true (.lst AH), .d (.int (k : Nat)), .d (.lst (rows.map (rwG F ps))), .d AM, .own false (.lst ((L0 ++ (pre.filter fun c => aN ps w m (qs ps (t ++ [c]))).map fun c => t ++ [c]).map (rwG F ps))), .d (.str t), .d (.int (F.idxOf (qs ps t) : Nat)), w8, w9, .un]) ⟨w8, w9, f8, f9, by rw [List.filter_nil, List.map_nil, List.append_nil]⟩ ?_ ?_
        · rintro pre3 c suf3 _ hx3 ⟨w8, w9, f8, f9, rfl⟩
          refine ⟨[.d ST, .own true (.lst AH), .d (.int (k : Nat)), .d (.lst (rows.map (rwG F ps))), .d AM, .own false (.lst ((L0 ++ (pre3.filter fun c => aN ps w m (qs ps (t ++ [c]))).map fun c => t ++ [c]).map (rwG F ps))), .d (.str t), .d (.int (F.idxOf (qs ps t) : Nat)), .d (.str [c]), .d (.int (F.idxOf (qs ps (t ++ [c])) : Nat)), .un], put_two f8 rfl f9 rfl, ?_⟩
          have hcl : c ∈ letters := by rw [hx3]; exact List.mem_append_right _ (List.mem_cons_self ..)
          have hb := hah (t ++ [c]) (hq t htF c hcl)
          have h5 : (100000 : Nat) ≤ sizeLine := by decide
          have ad : addD (.str t) (.str [c]) = some (.d (.str (t ++ [c]))) := Dw.add_str (by rw [List.length_singleton]; omega)
          have hp3 : pre3.length ≤ 26 := by
            have e26 : letters.length = 26 := rfl
            rw [hx3, List.length_append] at e26
            omega
          have hll : ((L0 ++ (pre3.filter fun c => aN ps w m (qs ps (t ++ [c]))).map fun c => t ++ [c]).map (rwG F ps)).length ≤ 30000 := by
            rw [List.length_map, List.length_append, List.length_map]
            have := List.length_filter_le (fun c => aN ps w m (qs ps (t ++ [c]))) pre3
            omega
          have e3 : (L0 ++ ((pre3 ++ [c]).filter fun c => aN ps w m (qs ps (t ++ [c]))).map fun c => t ++ [c]).map (rwG F ps) = if aN ps w m (qs ps (t ++ [c])) = true then (L0 ++ (pre3.filter fun c => aN ps w m (qs ps (t ++ [c]))).map fun c => t ++ [c]).map (rwG F ps) ++ [rwG F ps (t ++ [c])] else (L0 ++ (pre3.filter fun c => aN ps w m (qs ps (t ++ [c]))).map fun c => t ++ [c]).map (rwG F ps) := by
            rw [List.filter_append]
            cases hv : aN ps w m (qs ps (t ++ [c])) <;> simp [hv]
          rw [e3]
          generalize (L0 ++ (pre3.filter fun c => aN ps w m (qs ps (t ++ [c]))).map fun c => t ++ [c]).map (rwG F ps) = LL at hll
          have erw : rwG F ps (t ++ [c]) = .tup [.str (t ++ [c]), .int (F.idxOf (qs ps (t ++ [c])) : Nat)] := rfl
          rw [erw]
          generalize F.idxOf (qs ps (t ++ [c])) = ic at hb
          unfold l_texts_of_length_1
          cases hv : aN ps w m (qs ps (t ++ [c])) with
          | true =>
            rw [hv] at hb
            (repeat' fail "V")
            exact ⟨_, _, rfl, rfl, rfl⟩
          | false =>
            rw [hv] at hb
            (repeat' fail "V")
            exact ⟨_, _, rfl, rfl, rfl⟩
        · rintro _ ⟨w8, w9, f8, f9, rfl⟩
          exact ⟨_, _, w8, w9, rfl, rfl, f8, f9, rfl⟩
      · rintro _ ⟨w6, w7, w8, w9, f6, f7, f8, f9, rfl⟩
        have hL : stepT ps w k m rows = (rows.flatMap fun t => (letters.filter fun c => aN ps w m (qs ps (t ++ [c]))).map fun c => t ++ [c]).take k := rfl
        rw [hL]
        generalize (rows.flatMap fun t => (letters.filter fun c => aN ps w m (qs ps (t ++ [c]))).map fun c => t ++ [c]) = L
        have ck : cutD (.lst (L.map (rwG F ps))) none (some (k : Int)) = some (.own (.lst ((L.take k).map (rwG F ps)))) := by
          show some (RV.own (.lst (cutL _ _ _))) = _
          congr 3
          unfold cutL
          rw [HT.sIx_none, HT.sIx_nat, List.drop_zero, Nat.sub_zero, List.map_take]
          by_cases hk3 : k ≤ (L.map (rwG F ps)).length
          · rw [Nat.min_eq_left hk3]
          · rw [Nat.min_eq_right (by omega), List.take_length, List.take_of_length_le (by omega)]
        (repeat' fail "V")
        exact ⟨_, _, w6, w7, w8, w9, rfl, rfl, f6, f7, f8, f9, rfl⟩
    · rintro _ ⟨w4, w5, w6, w7, w8, w9, f4, f5, f6, f7, f8, f9, rfl⟩
      rw [List.length_reverse, List.length_map, List.length_range]
      have hcn := rows_cnt (ps := ps) (w := w) (k := k) (n := n) hk n
      have hTL : TL ps w k n = rowsT ps w k n n := rfl
      rw [hTL]
      generalize rowsT ps w k n n = rows at hcn
      have itR : itemsD (.lst (rows.map (rwG F ps))) = some (rows.map (rwG F ps)) := rfl
      have cmp := w_compM (vs := [6, 10]) (tg := .two 6 10) (fe := e_texts_of_length_4) (d := rwG F ps) (g := fun t => D.str t) (l := rows) (e0 := [.d ST, .own true (.lst AH), .d (.int (k : Nat)), .d (.lst (rows.map (rwG F ps))), w4, w5, .un, w7, w8, w9, .un]) (by omega) (fun t ht => by
        refine ⟨[.d ST, .own true (.lst AH), .d (.int (k : Nat)), .d (.lst (rows.map (rwG F ps))), w4, w5, .d (.str t), w7, w8, w9, .d (.int (F.idxOf (qs ps t) : Nat))], put_two (x := .str t) (y := .int (F.idxOf (qs ps t) : Nat)) rfl rfl rfl rfl, ?_⟩
        unfold e_texts_of_length_4
        (repeat' fail "V")
        exact ⟨_, rfl, rfl⟩)
      (repeat' fail "V")
      refine Dw.w_comp1 (env2 := [.d ST, .own true (.lst AH), .d (.int (k : Nat)), .d (.lst (rows.map (rwG F ps))), w4, w5, keepD (some w6), w7, w8, w9, .un]) cmp rfl ?_
      (repeat' fail "V")
      exact ⟨rfl, rfl⟩
  obtain ⟨a, o, h1, rfl, h2⟩ := wF_get this
  exact ⟨o, h1, h2⟩
end
end
section
section
variable {ps : List (List Nat)} {w : List Bool} {F : List Qs}
theorem eqBs_bl : ∀ a b : List Bool, eqBs (a.map D.bl) (b.map D.bl) = decide (a = b)
  | [], [] => by rw [List.map_nil, eqBs]; rfl
  | [], _ :: _ => by simp [eqBs]
  | _ :: _, [] => by simp [eqBs]
  | x :: a, y :: b => by
    rw [List.map_cons, List.map_cons, eqBs, eqBs_bl a b, eqB, Bool.eq_iff_iff, Bool.and_eq_true, beq_iff_eq, decide_eq_true_eq, decide_eq_true_eq, List.cons.injEq]
theorem gd_bl (b : Bool) : Gd (py (.bl b)) 0 0 := by
  cases b <;> exact ⟨rfl, by simp [py, PyData.depth], rfl, rfl, rfl, by simp [py, PyData.bulk]⟩
theorem gd_bls {a : List Bool} (h : a.length ≤ 10) : Gd (py (.tup (a.map D.bl))) 1 10 := by
  refine gd_tup (n := 10) (d := 0) (b := 0) (fun x hx => ?_) (by rw [pys_len, List.length_map]; exact h)
  obtain ⟨y, hy, rfl⟩ := pys_mem _ _ hx
  obtain ⟨i, hi, rfl⟩ := List.mem_map.mp hy
  exact gd_bl i
theorem eq_bls {a b : List Bool} (ha : a.length ≤ 10) (hb : b.length ≤ 10) : eqD (.tup (a.map .bl)) (.tup (b.map .bl)) = some (.d (.bl (decide (a = b)))) := by
  have e : eqB (.tup (a.map D.bl)) (.tup (b.map D.bl)) = decide (a = b) := by rw [eqB, eqBs_bl]
  unfold eqD
  rw [gd_shp (gd_bls ha) (by decide), gd_shp (gd_bls hb) (by decide), e]
  simp
theorem blsD_map {α : Type} (f : α → Bool) : ∀ l : List α, blsD (l.map fun s => .bl (f s)) = some (l.map f)
  | [] => rfl
  | x :: l => by
    rw [List.map_cons, blsD, blsD_map f l]
    rfl
theorem any_map {α : Type} (f : α → Bool) (l : List α) : anyC [.lst (l.map fun s => D.bl (f s))] = some (.d (.bl (l.any f))) := by
  show (blsD _).map _ = _
  rw [blsD_map, Option.map_some, List.any_map]
  rfl
def fnd (ps : List (List Nat)) (w : List Bool) (N : Nat) : Nat → List (List Nat)
  | 0 => []
  | n + 1 => fnd ps w N n ++ TL ps w (N - (fnd ps w N n).length) n
theorem fnd_step {N n : Nat} (h : (fnd ps w N n).length < N) : (fnd ps w N (n + 1)).length ≤ N := by
  have := rows_cnt (ps := ps) (w := w) (n := n) (show 0 < N - (fnd ps w N n).length by omega) n
  have e : TL ps w (N - (fnd ps w N n).length) n = rowsT ps w (N - (fnd ps w N n).length) n n := rfl
  rw [fnd, List.length_append, e]
  omega
theorem fnd_cnt {N n : Nat} (h : (fnd ps w N n).length < N) (hc : cnt ps w n ≤ (fnd ps w N n).length) : cnt ps w (n + 1) ≤ (fnd ps w N (n + 1)).length := by
  rw [cnt_succ, fnd, List.length_append]
  split
  · rename_i g
    have := rows_pos (k := N - (fnd ps w N n).length) (by omega) g n (Nat.le_refl _)
    have e : TL ps w (N - (fnd ps w N n).length) n = rowsT ps w (N - (fnd ps w N n).length) n n := rfl
    rw [e]
    have := List.length_pos_iff.mpr this
    omega
  · omega
theorem ev_toc (hq : ∀ t, qs ps t ∈ F → ∀ c ∈ letters, qs ps (t ++ [c]) ∈ F) (hc : ∀ s ∈ F, ∀ c ∈ letters, nxq ps c s ∈ F) (h0 : F[0]? = some (qs ps [])) (hb : F.length ≤ 1000) (hcl : ∀ s ∈ F, (cB ps s).length ≤ 10) (hw : w.length ≤ 10)
    (hend : ∀ j n, 385 * j ≤ n → (∃ s ∈ F, aN ps w n s = true) → j ≤ cnt ps w n) {N : Nat} (hN : N ≤ 50) :
    ∃ n o, m_texts_of_class [.d (.lst (F.map (clD ps))), .d (stG F ps), .d (.tup (w.map .bl)), .d (.int (N : Nat))] = some (.ok (.own (.lst ((fnd ps w N n).map .str))) o) ∧ ((∀ i, i < n → (fnd ps w N i).length < N) ∧ ((fnd ps w N n).length < N → ∀ s ∈ F, aN ps w n s = false)) := by
  have : wF (m_texts_of_class [.d (.lst (F.map (clD ps))), .d (stG F ps), .d (.tup (w.map .bl)), .d (.int (N : Nat))]) (fun u _ => ∃ n, u = .own (.lst ((fnd ps w N n).map .str)) ∧ ((∀ i, i < n → (fnd ps w N i).length < N) ∧ ((fnd ps w N n).length < N → ∀ s ∈ F, aN ps w n s = false))) nX := by
    refine w_defM rfl (by fail "S") ?_
    unfold b_texts_of_class
    have tol := fun n k (hk : 0 < k) (hk2 : k ≤ 1000) (hn : n ≤ 50000) => ev_tol (ps := ps) (w := w) hq h0 (n := n) (k := k) hk hk2 hn
    have itS : itemsD (stG F ps) = some (F.map fun s => .lst (letters.map fun c => .int (F.idxOf (nxq ps c s) : Nat))) := rfl
    have itC : itemsD (.lst (F.map (clD ps))) = some (F.map (clD ps)) := rfl
    have cmp1 : compD [7] (.nm 7) none e_texts_of_class_1 (F.map (clD ps)) [] [.d (.lst (F.map (clD ps))), .d (stG F ps), .d (.tup (w.map .bl)), .d (.int (N : Nat)), .own false (.lst []), .un, .un, .un, .un, .un] = some (F.map fun s => .bl (aN ps w 0 s), [.d (.lst (F.map (clD ps))), .d (stG F ps), .d (.tup (w.map .bl)), .d (.int (N : Nat)), .own false (.lst []), .un, .un, .un, .un, .un]) :=
      w_compM (by omega) fun s hs => by
        have e := eq_bls (hcl s hs) hw
        have e : eqD (clD ps s) (.tup (w.map .bl)) = some (.d (.bl (aN ps w 0 s))) := e
        generalize clD ps s = Y at e
        refine ⟨[.d (.lst (F.map (clD ps))), .d (stG F ps), .d (.tup (w.map .bl)), .d (.int (N : Nat)), .own false (.lst []), .un, .un, .d Y, .un, .un], put_nm rfl rfl, ?_⟩
        unfold e_texts_of_class_1
        (repeat' fail "V")
        exact ⟨_, rfl, rfl⟩
    have hah : ∀ n, ahG F ps w n = .lst (F.map fun s => .bl (aN ps w n s)) := fun _ => rfl
    generalize F.map (clD ps) = CL at itC cmp1
    generalize stG F ps = ST at tol itS cmp1
    generalize w.map D.bl = WL at cmp1
    refine w_seqP2 (fun e => e = [.d (.lst CL), .d ST, .d (.tup WL), .d (.int (N : Nat)), .own false (.lst []), .own false (.lst [ahG F ps w 0]), .un, .un, .un, .un]) ?_ ?_
    · (repeat' fail "V")
      refine Dw.w_comp1 (env2 := [.d (.lst CL), .d ST, .d (.tup WL), .d (.int (N : Nat)), .own false (.lst []), .un, .un, .un, .un, .un]) cmp1 rfl ?_
      (repeat' fail "V")
      rfl
    rintro _ rfl
    (repeat' fail "V")
    refine w_while (fun m e => ∃ (n : Nat) (w6 : SV), m + n = 385 * (N + 1) ∧ freeSlot (some w6) = true ∧ (∀ i, i < n → (fnd ps w N i).length < N) ∧ (fnd ps w N n).length ≤ N ∧ cnt ps w n ≤ (fnd ps w N n).length ∧
      e = [.d (.lst CL), .d ST, .d (.tup WL), .d (.int (N : Nat)), .own false (.lst ((fnd ps w N n).map .str)), .own false (.lst ((List.range (n + 1)).map (ahG F ps w))), w6, .un, .un, .un]) (n := 385 * (N + 1)) (by omega) ⟨0, _, by omega, rfl, fun i hi => by omega, Nat.zero_le _, Nat.zero_le _, rfl⟩ ?_
    rintro m _ ⟨n, w6, hmn, f6, hi, hl, hcn, rfl⟩
    have gl := get_last (f := ahG F ps w) (n := n)
    have an : anyC [ahG F ps w n] = some (.d (.bl (F.any fun s => aN ps w n s))) := by rw [hah]; exact any_map _ _
    have lf : ((fnd ps w N n).map D.str).length = (fnd ps w N n).length := List.length_map ..
    generalize hA0 : (List.range (n + 1)).map (ahG F ps w) = AH at gl
    (repeat' fail "V")
    · rw [lf]
      intro hlt
      have hlt : (fnd ps w N n).length < N := by have := of_decide_eq_true hlt; omega
      (repeat' fail "V")
      · intro hany
        have hany : ∃ s ∈ F, aN ps w n s = true := List.any_eq_true.mp hany
        have hnb : n < 385 * N := by
          apply Classical.byContradiction
          intro g
          have := hend N n (by omega) hany
          omega
        obtain ⟨o1, t1, t2⟩ := tol n (N - (fnd ps w N n).length) (by omega) (by omega) (by omega)
        rw [hA0] at t1 t2
        have sb : subD (.int (N : Nat)) (.int ((fnd ps w N n).map D.str).length) = some (.d (.int ((N - (fnd ps w N n).length : Nat) : Int))) := by
          rw [lf, Dw.sub_int', show ((N : Nat) : Int) - ((fnd ps w N n).length : Nat) = ((N - (fnd ps w N n).length : Nat) : Int) by omega]
        have sl := fnd_step hlt
        have sc := fnd_cnt hlt hcn
        have e1 : fnd ps w N (n + 1) = fnd ps w N n ++ TL ps w (N - (fnd ps w N n).length) n := rfl
        have e2 : (List.range (n + 1 + 1)).map (ahG F ps w) = AH ++ [ahG F ps w (n + 1)] := by
          rw [List.range_succ, List.map_append, hA0]; rfl
        have lAH : AH.length ≤ 50000 := by rw [← hA0, List.length_map, List.length_range]; omega
        have lT : ((fnd ps w N n).map D.str).length + ((TL ps w (N - (fnd ps w N n).length) n).map D.str).length ≤ 100000 := by
          rw [List.length_map, List.length_map]
          rw [e1, List.length_append] at sl
          omega
        have hi2 : ∀ i, i < n + 1 → (fnd ps w N i).length < N := fun i h => by
          by_cases g : i = n
          · rw [g]; exact hlt
          · exact hi i (by omega)
        have FF : ((fnd ps w N n).map D.str) ++ ((TL ps w (N - (fnd ps w N n).length) n).map D.str) = (fnd ps w N (n + 1)).map D.str := by rw [e1, List.map_append]
        have cmp3 : ∀ (L5 L4 : SV), L5 = .own false (.lst AH) → compD [8] (.nm 8) none e_texts_of_class_3 (F.map fun s => .lst (letters.map fun c => .int (F.idxOf (nxq ps c s) : Nat))) [] [.d (.lst CL), .d ST, .d (.tup WL), .d (.int (N : Nat)), L4, L5, .d (ahG F ps w n), .un, .un, .un] = some (F.map fun s => .bl (aN ps w (n + 1) s), [.d (.lst CL), .d ST, .d (.tup WL), .d (.int (N : Nat)), L4, L5, .d (ahG F ps w n), .un, .un, .un]) := fun L5 L4 _ =>
          w_compM (by omega) fun s hs => by
            have cmp4 : ∀ w8 : SV, compD [9] (.nm 9) none e_texts_of_class_2 (letters.map fun c => .int (F.idxOf (nxq ps c s) : Nat)) [] [.d (.lst CL), .d ST, .d (.tup WL), .d (.int (N : Nat)), L4, L5, .d (ahG F ps w n), .un, w8, .un] = some (letters.map fun c => .bl (aN ps w n (nxq ps c s)), [.d (.lst CL), .d ST, .d (.tup WL), .d (.int (N : Nat)), L4, L5, .d (ahG F ps w n), .un, w8, .un]) := fun w8 =>
              w_compM (by decide) fun c hcl => by
                have g := get_F (f := fun s => D.bl (aN ps w n s)) (hc s hs c hcl)
                have g : getD (ahG F ps w n) (.int (F.idxOf (nxq ps c s) : Nat)) = some (.d (.bl (aN ps w n (nxq ps c s)))) := g
                generalize ahG F ps w n = AN at g
                refine ⟨[.d (.lst CL), .d ST, .d (.tup WL), .d (.int (N : Nat)), L4, L5, .d AN, .un, w8, .d (.int (F.idxOf (nxq ps c s) : Nat))], put_nm rfl rfl, ?_⟩
                unfold e_texts_of_class_2
                (repeat' fail "V")
                exact ⟨_, rfl, rfl⟩
            have an3 : anyC [.lst (letters.map fun c => D.bl (aN ps w n (nxq ps c s)))] = some (.d (.bl (aN ps w (n + 1) s))) := any_map (fun c => aN ps w n (nxq ps c s)) letters
            have it3 : itemsD (.lst (letters.map fun c => D.int (F.idxOf (nxq ps c s) : Nat))) = some (letters.map fun c => D.int (F.idxOf (nxq ps c s) : Nat)) := rfl
            generalize hR : (letters.map fun c => D.int (F.idxOf (nxq ps c s) : Nat)) = RW at cmp4 it3
            refine ⟨[.d (.lst CL), .d ST, .d (.tup WL), .d (.int (N : Nat)), L4, L5, .d (ahG F ps w n), .un, .d (.lst RW), .un], put_nm rfl rfl, ?_⟩
            unfold e_texts_of_class_3
            (repeat' fail "V")
            refine Dw.w_comp1 (env2 := [.d (.lst CL), .d ST, .d (.tup WL), .d (.int (N : Nat)), L4, L5, .d (ahG F ps w n), .un, .d (.lst RW), .un]) (cmp4 _) rfl ?_
            (repeat' fail "V")
            exact ⟨_, rfl, rfl⟩
        unfold l_texts_of_class_4
        (repeat' fail "V")
        refine Dw.w_comp1 (env2 := [.d (.lst CL), .d ST, .d (.tup WL), .d (.int (N : Nat)), .own false (.lst ((fnd ps w N n).map D.str ++ (TL ps w (N - (fnd ps w N n).length) n).map D.str)), .own false (.lst AH), .d (ahG F ps w n), .un, .un, .un]) (cmp3 _ _ rfl) rfl ?_
        (repeat' fail "V")
        refine ⟨m - 1, by omega, n + 1, .d (ahG F ps w n), by omega, rfl, hi2, sl, sc, ?_⟩
        rw [FF, e2]
        rfl
      · intro hany
        (repeat' fail "V")
        refine ⟨n, rfl, hi, fun _ s hs => ?_⟩
        have := List.any_eq_false.mp hany s hs
        simpa using this
    · rw [lf]
      intro hge
      have hge : N ≤ (fnd ps w N n).length := by have := of_decide_eq_false hge; omega
      (repeat' fail "V")
      exact ⟨n, rfl, hi, fun h => by omega⟩
  obtain ⟨a, o, h1, n, rfl, h2⟩ := wF_get this
  exact ⟨n, o, h1, h2⟩
end
end
section
section
variable {ps : List (List Nat)} {w : List Bool} {F : List Qs}
def D1 (ps : List (List Nat)) (w : List Bool) : List (List Nat) := (letters.filter fun c => aN ps w 0 (qs ps [c])).map fun c => [c]
end
end
section
structure GF (ps : List (List Nat)) (F : List Qs) : Prop where
  len : F.length ≤ 385
  h0 : F[0]? = some (qs ps [])
  q : ∀ s ∈ F, ∃ t, s = qs ps t
  c : ∀ s ∈ F, ∀ c ∈ letters, nxq ps c s ∈ F
  e : ∀ (w : List Bool) (j n : Nat), 385 * j ≤ n → (∃ s ∈ F, aN ps w n s = true) → j ≤ cnt ps w n
theorem at_0 (ps : List (List Nat)) (n : Nat) : (bfs ps n)[0]? = some (qs ps []) := by
  obtain ⟨Z, hz⟩ := bfs_pre (ps := ps) 0 n
  rw [Nat.zero_add] at hz
  rw [hz, bfs]
  exact List.getElem?_cons_zero
section
variable {ps : List (List Nat)} {w : List Bool} {F : List Qs}
theorem ev_ft (h : okPs ps) (g : GF ps F) {og : List SV} (gr : m_state_graph [.d (.lst (sL ps))] = some (.ok (.d (.tup [.lst (F.map eQ), stG F ps])) og)) {L but : List (List Nat)} {c : Nat} {B : D} (hB : B = .tup (but.map .str) ∨ B = .lst (but.map .str)) (hL : L.length ≤ 1000) {ot : List SV}
    (tc : m_texts_of_class [.d (.lst (F.map (clD ps))), .d (stG F ps), .d (.tup (w.map .bl)), .d (.int ((c + but.length : Nat) : Int))] = some (.ok (.own (.lst (L.map .str))) ot)) :
    ∃ o, m_first_texts [.d (.lst (sL ps)), .d (.tup (w.map .bl)), .d (.int (c : Nat)), .d B] = some (.ok (.own (.lst (((L.filter fun t => !decide (t ∈ but)).take c).map .str))) o) := by
  have : wF (m_first_texts [.d (.lst (sL ps)), .d (.tup (w.map .bl)), .d (.int (c : Nat)), .d B]) (fun u _ => u = .own (.lst (((L.filter fun t => !decide (t ∈ but)).take c).map .str))) nX := by
    refine w_defM rfl (by fail "S") ?_
    unfold b_first_texts
    obtain ⟨o1, cl⟩ := ev_classes (F := F) h g.q (by have := g.len; omega)
    have ln : lenD [B] = some (.d (.int (but.length : Nat))) := by
      rcases hB with rfl | rfl
      · rw [Dw.len_tup, List.length_map]
      · rw [Dw.len_lst, List.length_map]
    have ad : addD (.int (c : Nat)) (.int (but.length : Nat)) = some (.d (.int ((c + but.length : Nat) : Int))) := by rw [Dw.add_int']; push_cast; rfl
    have ni : ∀ t : List Nat, notInG (.str t) B = some (.d (.bl (!decide (t ∈ but)))) := fun t => by
      rcases hB with rfl | rfl
      · exact notInG_of (inG_in (in_tupS (ls := but)))
      · exact notin_S
    generalize F.map (clD ps) = CL at cl tc
    generalize F.map eQ = FE at gr cl
    generalize stG F ps = ST at gr tc
    generalize w.map D.bl = WL at tc
    generalize sL ps = LP at gr cl
    have cmp := w_compF (vs := [7]) (tg := .nm 7) (fc := two (op2 notInG) (varE 7) (varE 3)) (fe := e_first_texts_1) (d := D.str) (g := D.str) (p := fun t => !decide (t ∈ but)) (l := L) (e0 := [.d (.lst LP), .d (.tup WL), .d (.int (c : Nat)), .d B, .d (.lst (L.map .str)), .d (.lst FE), .d ST, .un]) (by omega) (fun t ht => by
      have nt := ni t
      refine ⟨[.d (.lst LP), .d (.tup WL), .d (.int (c : Nat)), .d B, .d (.lst (L.map .str)), .d (.lst FE), .d ST, .d (.str t)], put_nm rfl rfl, ?_⟩
      (repeat' fail "V")
      refine ⟨rfl, fun _ => ?_, fun _ => rfl⟩
      unfold e_first_texts_1
      (repeat' fail "V")
      exact ⟨_, rfl, rfl⟩)
    have itL : itemsD (.lst (L.map D.str)) = some (L.map D.str) := rfl
    have ck : cutD (.lst ((L.filter fun t => !decide (t ∈ but)).map D.str)) none (some (c : Int)) = some (.own (.lst (((L.filter fun t => !decide (t ∈ but)).take c).map .str))) := by
      generalize (L.filter fun t => !decide (t ∈ but)) = M
      show some (RV.own (.lst (cutL _ _ _))) = _
      congr 3
      unfold cutL
      rw [HT.sIx_none, HT.sIx_nat, List.drop_zero, Nat.sub_zero, List.map_take]
      by_cases hk3 : c ≤ (M.map D.str).length
      · rw [Nat.min_eq_left hk3]
      · rw [Nat.min_eq_right (by omega), List.take_length, List.take_of_length_le (by omega)]
    (repeat' fail "V")
    refine Dw.w_comp1 (env2 := [.d (.lst LP), .d (.tup WL), .d (.int (c : Nat)), .d B, .d (.lst (L.map .str)), .d (.lst FE), .d ST, .un]) cmp rfl ?_
    (repeat' fail "V")
    rfl
  obtain ⟨a, o, h1, rfl⟩ := wF_get this
  exact ⟨o, h1⟩
end
end
section
section
variable {ps : List (List Nat)} {w : List Bool} {F : List Qs}
theorem ev_f1 (h : okPs ps) (g : GF ps F) {og : List SV} (gr : m_state_graph [.d (.lst (sL ps))] = some (.ok (.d (.tup [.lst (F.map eQ), stG F ps])) og)) {L but : List (List Nat)} {B : D} (hB : B = .tup (but.map .str) ∨ B = .lst (but.map .str)) (hL : L.length ≤ 1000) {ot : List SV}
    (tc : m_texts_of_class [.d (.lst (F.map (clD ps))), .d (stG F ps), .d (.tup (w.map .bl)), .d (.int ((1 + but.length : Nat) : Int))] = some (.ok (.own (.lst (L.map .str))) ot)) :
    ∃ o, m_first_text [.d (.lst (sL ps)), .d (.tup (w.map .bl)), .d B] = some (.ok (.d (match (L.filter fun t => !decide (t ∈ but)).take 1 with | t :: _ => .str t | [] => .non)) o) := by
  have : wF (m_first_text [.d (.lst (sL ps)), .d (.tup (w.map .bl)), .d B]) (fun u _ => u = .d (match (L.filter fun t => !decide (t ∈ but)).take 1 with | t :: _ => .str t | [] => .non)) nX := by
    refine w_defM rfl (by fail "S") ?_
    unfold b_first_text
    obtain ⟨o, e⟩ := ev_ft (c := 1) h g gr hB hL tc
    have e : m_first_texts [.d (.lst (sL ps)), .d (.tup (w.map .bl)), .d (.int 1), .d B] = some (.ok (.own (.lst (((L.filter fun t => !decide (t ∈ but)).take 1).map .str))) o) := e
    have hl : ((L.filter fun t => !decide (t ∈ but)).take 1).length ≤ 1 := by rw [List.length_take]; omega
    generalize (L.filter fun t => !decide (t ∈ but)).take 1 = M at e hl
    match M, hl, e with
    | [], _, e =>
      have e : m_first_texts [.d (.lst (sL ps)), .d (.tup (w.map .bl)), .d (.int 1), .d B] = some (.ok (.own (.lst [])) o) := e
      (repeat' fail "V")
      · intro g; cases g
      · intro _
        (repeat' fail "V")
        rfl
    | [t], _, e =>
      have e : m_first_texts [.d (.lst (sL ps)), .d (.tup (w.map .bl)), .d (.int 1), .d B] = some (.ok (.own (.lst [.str t])) o) := e
      have g0 : getD (.lst [.str t]) (.int 0) = some (.d (.str t)) := Dw.get_lst (L2.atI_nat (j := 0) rfl)
      (repeat' fail "V")
      · intro _
        (repeat' fail "V")
        rfl
      · intro g; cases g
  obtain ⟨a, o, h1, rfl⟩ := wF_get this
  exact ⟨o, h1⟩
end
end
section
theorem cB_len {ps : List (List Nat)} {t : List Nat} : (cB ps (qs ps t)).length = ps.length := by rw [cB_qs, List.length_map]
theorem ev_lc {ps : List (List Nat)} {t : List Nat} (h : okPs ps) (ht : t.length ≤ 20000) : ∃ o, m_ulawuclass [.d (.lst (sL ps)), .d (.str t)] = some (.ok (.d (clD ps (qs ps t))) o) := by
  have : wF (m_ulawuclass [.d (.lst (sL ps)), .d (.str t)]) (fun u _ => u = .d (clD ps (qs ps t))) nX := by
    refine w_defM rfl (by fail "S") ?_
    unfold b_ulawuclass
    have cmp := w_compM (vs := [2]) (tg := .nm 2) (fe := e_ulawuclass_1) (d := D.str) (g := fun p => .bl (decide ((p.length : Int) ∈ Ls p t t.length))) (l := ps) (e0 := [.d (.lst (sL ps)), .d (.str t), .un]) (by have := h.1; omega) (fun p hp => by
      obtain ⟨o, e⟩ := ev_lawmatches (p := p) (t := t) (by have := (h.2 p hp).1; omega) ht
      have eb : Mb p t p.length t.length = decide ((p.length : Int) ∈ Ls p t t.length) := by
        have := Ls_mem (p := p) (t := t) (j := t.length) (k := p.length) (Nat.le_refl _)
        cases hm : Mb p t p.length t.length with
        | true => exact (decide_eq_true (this.mpr hm)).symm
        | false => exact (decide_eq_false (fun c => by rw [this.mp c] at hm; cases hm)).symm
      rw [eb] at e
      refine ⟨[.d (.lst (sL ps)), .d (.str t), .d (.str p)], put_nm rfl rfl, ?_⟩
      unfold e_ulawuclass_1
      generalize sL ps = LP
      (repeat' fail "V")
      exact ⟨_, rfl, rfl⟩)
    have e5 : tupleC [.lst (ps.map fun p => D.bl (decide ((p.length : Int) ∈ Ls p t t.length)))] = some (.d (clD ps (qs ps t))) := by
      unfold clD
      rw [cB_qs, List.map_map]
      rfl
    have it : itemsD (.lst (sL ps)) = some (ps.map D.str) := rfl
    generalize sL ps = LP at cmp it
    (repeat' fail "V")
    refine Dw.w_comp1 (env2 := [.d (.lst LP), .d (.str t), .un]) cmp rfl ?_
    (repeat' fail "V")
    rfl
  obtain ⟨a, o, h1, rfl⟩ := wF_get this
  exact ⟨o, h1⟩
end
section
section
variable {ps : List (List Nat)} {w : List Bool} {F : List Qs}
theorem rows_nil {k n : Nat} (h : aN ps w n (qs ps []) = false) : ∀ i, rowsT ps w k n i = []
  | 0 => by rw [rowsT, if_neg (by rw [h]; exact Bool.false_ne_true)]
  | i + 1 => by rw [rowsT, rows_nil h i, stepT, List.flatMap_nil, List.take_nil]
theorem fnd_tx {N : Nat} : ∀ n, ∀ t ∈ fnd ps w N n, t.length < n ∧ (∀ c ∈ t, c ∈ letters) ∧ aN ps w t.length (qs ps []) = true
  | 0, t, h => by rw [fnd] at h; cases h
  | n + 1, t, h => by
    rw [fnd] at h
    rcases List.mem_append.mp h with g | g
    · obtain ⟨a, b⟩ := fnd_tx n t g
      exact ⟨by omega, b⟩
    · obtain ⟨a, b⟩ := rows_len n t g
      refine ⟨by omega, b, ?_⟩
      rw [a]
      cases hb : aN ps w n (qs ps []) with
      | true => rfl
      | false => rw [TL, rows_nil hb] at g; cases g
theorem cnt_fnd {N : Nat} : ∀ m, (∀ i, i < m → (fnd ps w N i).length < N) → cnt ps w m ≤ (fnd ps w N m).length
  | 0, _ => by rw [show cnt ps w 0 = 0 from rfl]; exact Nat.zero_le _
  | m + 1, h => fnd_cnt (h m (Nat.lt_succ_self _)) (cnt_fnd m fun i hi => h i (by omega))
theorem fnd_le {N n : Nat} (hi : ∀ i, i < n → (fnd ps w N i).length < N) : (fnd ps w N n).length ≤ N := by
  cases n with
  | zero => rw [fnd]; exact Nat.zero_le _
  | succ n => exact fnd_step (hi n (Nat.lt_succ_self _))
theorem GF.m0 (g : GF ps F) : qs ps [] ∈ F := List.mem_of_getElem? g.h0
end
theorem lt_letters {c : Nat} (h : c ∈ letters) : c < 128 := by
  have : ∀ c ∈ letters, c < 128 := by decide
  exact this c h
theorem gd_str {t : List Nat} {b : Nat} (h : ∀ c ∈ t, c < 128) (hl : t.length ≤ b) : Gd (py (.str t)) 0 b := by
  refine ⟨strOk_of h, Nat.le_refl _, rfl, rfl, ?_, ?_⟩
  · show ((mk t).cps.toList.all fun c => decide (c < 16 ^ 8)) = true
    rw [List.all_eq_true]
    intro c hc
    have := h c hc
    have : (16 : Nat) ^ 8 = 4294967296 := by decide
    exact decide_eq_true (by omega)
  · show (mk t).cps.size ≤ b
    exact hl
theorem gd_strs {L : List (List Nat)} {n b : Nat} (h : ∀ t ∈ L, t.length ≤ b ∧ ∀ c ∈ t, c < 128) (hn : L.length ≤ n) : Gd (py (.lst (L.map .str))) 1 (n * (b + 1)) := by
  refine gd_lst (n := n) (d := 0) (b := b) (fun x hx => ?_) (by rw [pys_len, List.length_map]; exact hn)
  obtain ⟨y, hy, rfl⟩ := pys_mem _ _ hx
  obtain ⟨t, ht, rfl⟩ := List.mem_map.mp hy
  exact gd_str (h t ht).2 (h t ht).1
theorem ne_of_eq {x y : D} {b : Bool} (h : eqD x y = some (.d (.bl b))) : neD x y = some (.d (.bl (!b))) := by
  unfold eqD at h
  unfold neD
  split at h
  · rename_i c
    rw [if_pos c]
    cases h
    rfl
  · cases h
end
section
section
variable {ps : List (List Nat)} {w : List Bool}
def exts (ps : List (List Nat)) (w : List Bool) (m : Nat) (t : List Nat) : List (List Nat) := (letters.filter fun c => aN ps w m (qs ps (t ++ [c]))).map fun c => t ++ [c]
def AL (ps : List (List Nat)) (w : List Bool) (n : Nat) : Nat → List (List Nat)
  | 0 => if aN ps w n (qs ps []) = true then [[]] else []
  | i + 1 => (AL ps w n i).flatMap (exts ps w (n - 1 - i))
theorem take_flat {α β : Type} {f : α → List β} : ∀ (l : List α) (k : Nat), (∀ x ∈ l, f x ≠ []) → ((l.take k).flatMap f).take k = (l.flatMap f).take k
  | [], k, _ => by rw [List.take_nil]
  | x :: l, 0, _ => by rw [List.take_zero, List.take_zero]
  | x :: l, k + 1, h => by
    have ih := take_flat l k fun y hy => h y (List.mem_cons_of_mem _ hy)
    have hx := List.length_pos_iff.mpr (h x (List.mem_cons_self ..))
    rw [List.take_succ_cons, List.flatMap_cons, List.flatMap_cons, List.take_append, List.take_append]
    congr 1
    have e : ∀ A : List β, A.take (k + 1 - (f x).length) = (A.take k).take (k + 1 - (f x).length) := fun A => by rw [List.take_take, Nat.min_eq_left (by omega)]
    rw [e, ih, ← e]
theorem AL_mem {n : Nat} : ∀ i, i ≤ n → ∀ t, t ∈ AL ps w n i ↔ t.length = i ∧ (∀ c ∈ t, c ∈ letters) ∧ aN ps w (n - i) (qs ps t) = true
  | 0, _, t => by
    rw [AL]
    constructor
    · intro h
      split at h
      · rename_i g
        rw [List.mem_singleton] at h
        subst h
        exact ⟨rfl, fun c hc => (List.not_mem_nil hc).elim, g⟩
      · cases h
    · rintro ⟨h, _, g⟩
      have := List.eq_nil_of_length_eq_zero h
      subst this
      rw [if_pos (show aN ps w n (qs ps []) = true from g)]
      exact List.mem_singleton.mpr rfl
  | i + 1, hi, t => by
    have ih := AL_mem (n := n) i (by omega)
    rw [AL, List.mem_flatMap]
    have en : n - 1 - i = n - (i + 1) := by omega
    constructor
    · rintro ⟨u, hu, ht⟩
      obtain ⟨c, hc, rfl⟩ := List.mem_map.mp ht
      obtain ⟨h1, h2⟩ := List.mem_filter.mp hc
      obtain ⟨a, b, _⟩ := (ih u).mp hu
      refine ⟨by rw [List.length_append, a]; rfl, fun z hz => ?_, by rw [← en]; exact h2⟩
      rcases List.mem_append.mp hz with q | q
      · exact b z q
      · rw [List.mem_singleton.mp q]; exact h1
    · rintro ⟨a, b, d⟩
      have hne : t ≠ [] := fun e => by subst e; cases a
      obtain ⟨u, c, rfl⟩ : ∃ u c, t = u ++ [c] := ⟨t.dropLast, t.getLast hne, (List.dropLast_concat_getLast hne).symm⟩
      have hc := b c (List.mem_append_right _ (List.mem_singleton.mpr rfl))
      refine ⟨u, (ih u).mpr ⟨by rw [List.length_append] at a; exact Nat.add_right_cancel a, fun z hz => b z (List.mem_append_left _ hz), ?_⟩, List.mem_map.mpr ⟨c, List.mem_filter.mpr ⟨hc, by rw [en]; exact d⟩, rfl⟩⟩
      rw [show n - i = (n - (i + 1)) + 1 by omega, aN, List.any_eq_true]
      exact ⟨c, hc, by rw [nxq_qs]; exact d⟩
theorem ext_ne {n i : Nat} (hi : i < n) : ∀ t ∈ AL ps w n i, exts ps w (n - 1 - i) t ≠ [] := fun t ht e => by
  obtain ⟨_, _, d⟩ := (AL_mem i (by omega) t).mp ht
  rw [show n - i = (n - 1 - i) + 1 by omega, aN, List.any_eq_true] at d
  obtain ⟨c, hc, d⟩ := d
  rw [nxq_qs] at d
  have : t ++ [c] ∈ exts ps w (n - 1 - i) t := List.mem_map.mpr ⟨c, List.mem_filter.mpr ⟨hc, d⟩, rfl⟩
  rw [e] at this
  cases this
theorem rows_AL {k n : Nat} (hk : 0 < k) : ∀ i, i ≤ n → rowsT ps w k n i = (AL ps w n i).take k
  | 0, _ => by
    rw [rowsT, AL]
    split
    · rw [List.take_of_length_le (show 1 ≤ k from hk)]
    · rw [List.take_nil]
  | i + 1, hi => by
    rw [rowsT, stepT, rows_AL hk i (by omega), AL]
    exact take_flat _ _ (ext_ne (by omega))
def CL (ps : List (List Nat)) (w : List Bool) (n : Nat) : List (List Nat) := (List.range n).flatMap fun m => AL ps w m m
theorem CL_succ {n : Nat} : CL ps w (n + 1) = CL ps w n ++ AL ps w n n := by
  unfold CL
  rw [List.range_succ, List.flatMap_append, List.flatMap_singleton]
theorem CL_mem {n : Nat} {t : List Nat} : t ∈ CL ps w n ↔ t.length < n ∧ (∀ c ∈ t, c ∈ letters) ∧ aN ps w 0 (qs ps t) = true := by
  unfold CL
  rw [List.mem_flatMap]
  constructor
  · rintro ⟨m, hm, h⟩
    obtain ⟨a, b, d⟩ := (AL_mem m (Nat.le_refl _) t).mp h
    rw [Nat.sub_self] at d
    exact ⟨by rw [a]; exact List.mem_range.mp hm, b, d⟩
  · rintro ⟨a, b, d⟩
    exact ⟨t.length, List.mem_range.mpr a, (AL_mem _ (Nat.le_refl _) t).mpr ⟨rfl, b, by rw [Nat.sub_self]; exact d⟩⟩
theorem fnd_CL {N : Nat} : ∀ n, (∀ i, i < n → (fnd ps w N i).length < N) → fnd ps w N n = (CL ps w n).take N
  | 0, _ => by rw [fnd]; exact (List.take_nil).symm
  | n + 1, h => by
    have ih := fnd_CL n fun i hi => h i (by omega)
    have hl := h n (Nat.lt_succ_self _)
    have hc : (CL ps w n).length < N := by rw [ih, List.length_take] at hl; omega
    rw [fnd, CL_succ, List.take_append, ← ih]
    congr 1
    rw [TL, rows_AL (by omega) n (Nat.le_refl _)]
    congr 1
    rw [ih, List.length_take]
    omega
def bef (a b : List Nat) : Prop := a.length < b.length ∨ (a.length = b.length ∧ a < b)
theorem lt_app : ∀ (a b : List Nat) {x y : List Nat}, a < b → a.length = b.length → a ++ x < b ++ y
  | [], [], _, _, h, _ => by cases h
  | [], _ :: _, _, _, _, e => by cases e
  | _ :: _, [], _, _, _, e => by cases e
  | p :: a, q :: b, x, y, h, e => by
    rw [List.cons_append, List.cons_append]
    rcases List.cons_lt_cons_iff.mp h with g | ⟨rfl, g⟩
    · exact List.cons_lt_cons_iff.mpr (.inl g)
    · exact List.cons_lt_cons_iff.mpr (.inr ⟨rfl, lt_app a b g (Nat.succ.inj e)⟩)
theorem lt_same : ∀ (a : List Nat) {x y : List Nat}, x < y → a ++ x < a ++ y
  | [], _, _, h => h
  | _ :: a, _, _, h => List.cons_lt_cons_iff.mpr (.inr ⟨rfl, lt_same a h⟩)
theorem let_pw : letters.Pairwise (· < ·) := by decide
theorem AL_pw {n : Nat} : ∀ i, i ≤ n → (AL ps w n i).Pairwise (· < ·)
  | 0, _ => by
    rw [AL]
    split
    · exact List.pairwise_singleton ..
    · exact List.Pairwise.nil
  | i + 1, hi => by
    have ih := AL_pw (n := n) i (by omega)
    rw [AL, List.pairwise_flatMap]
    refine ⟨fun t _ => ?_, ?_⟩
    · unfold exts
      rw [List.pairwise_map]
      refine List.Pairwise.imp (fun h => lt_same t (List.cons_lt_cons_iff.mpr (.inl h))) (List.Pairwise.sublist List.filter_sublist let_pw)
    · refine List.Pairwise.imp_of_mem (fun {a b} ha hb h x hx y hy => ?_) ih
      obtain ⟨c, _, rfl⟩ := List.mem_map.mp hx
      obtain ⟨d, _, rfl⟩ := List.mem_map.mp hy
      exact lt_app _ _ h (((AL_mem i (by omega) a).mp ha).1.trans ((AL_mem i (by omega) b).mp hb).1.symm)
theorem CL_pw {n : Nat} : (CL ps w n).Pairwise bef := by
  unfold CL
  rw [List.pairwise_flatMap]
  refine ⟨fun m _ => ?_, ?_⟩
  · refine List.Pairwise.imp_of_mem (fun {a b} ha hb h => .inr ⟨?_, h⟩) (AL_pw m (Nat.le_refl _))
    exact ((AL_mem m (Nat.le_refl _) a).mp ha).1.trans ((AL_mem m (Nat.le_refl _) b).mp hb).1.symm
  · refine List.Pairwise.imp (fun {a b} h x hx y hy => .inl ?_) List.pairwise_lt_range
    rw [((AL_mem a (Nat.le_refl _) x).mp hx).1, ((AL_mem b (Nat.le_refl _) y).mp hy).1]
    exact h
theorem bef_irr {a : List Nat} (h : bef a a) : False := by
  rcases h with h | ⟨_, h⟩
  · omega
  · exact List.lt_irrefl _ h
/-- the list is full or has all -/
structure FC (ps : List (List Nat)) (w : List Bool) (N : Nat) (L : List (List Nat)) : Prop where
  pw : L.Pairwise bef
  cl : ∀ t ∈ L, aN ps w 0 (qs ps t) = true
  all : ∀ t, (∀ c ∈ t, c ∈ letters) → aN ps w 0 (qs ps t) = true → t ∈ L ∨ (L.length = N ∧ ∀ u ∈ L, bef u t)
theorem aN_in : ∀ (n : Nat) (u : List Nat) (t : List Nat), t.length = n → (∀ c ∈ t, c ∈ letters) → aN ps w 0 (qs ps (u ++ t)) = true → aN ps w n (qs ps u) = true
  | 0, u, t, e, _, h => by
    have := List.eq_nil_of_length_eq_zero e
    subst this
    rw [List.append_nil] at h
    exact h
  | n + 1, u, [], e, _, _ => by cases e
  | n + 1, u, c :: t, e, hl, h => by
    have ih := aN_in n (u ++ [c]) t (Nat.succ.inj e) (fun z hz => hl z (List.mem_cons_of_mem _ hz)) (by rw [List.append_assoc]; exact h)
    rw [aN, List.any_eq_true]
    exact ⟨c, hl c (List.mem_cons_self ..), by rw [nxq_qs]; exact ih⟩
theorem fnd_FC {F : List Qs} (hF : ∀ t, (∀ c ∈ t, c ∈ letters) → qs ps t ∈ F) {N n : Nat} (hi : ∀ i, i < n → (fnd ps w N i).length < N) (he : (fnd ps w N n).length < N → ∀ s ∈ F, aN ps w n s = false) : FC ps w N (fnd ps w N n) := by
  have e := fnd_CL n hi
  refine ⟨by rw [e]; exact List.Pairwise.sublist (List.take_sublist ..) CL_pw, fun t ht => by rw [e] at ht; exact (CL_mem.mp (List.mem_of_mem_take ht)).2.2, fun t hl ht => ?_⟩
  by_cases hn : (fnd ps w N n).length < N
  · left
    have he := he hn
    rw [e] at hn ⊢
    rw [List.length_take] at hn
    rw [List.take_of_length_le (by omega)]
    refine CL_mem.mpr ⟨?_, hl, ht⟩
    by_cases z : t.length < n
    · exact z
    · have e2 : t = t.take (t.length - n) ++ t.drop (t.length - n) := (List.take_append_drop ..).symm
      have h1 : ∀ c ∈ t.take (t.length - n), c ∈ letters := fun c hc => hl c (List.mem_of_mem_take hc)
      have := aN_in (w := w) n (t.take (t.length - n)) (t.drop (t.length - n)) (by rw [List.length_drop]; omega) (fun c hc => hl c (List.mem_of_mem_drop hc)) (by rw [← e2]; exact ht)
      rw [he _ (hF _ h1)] at this
      cases this
  · by_cases hm : t ∈ fnd ps w N n
    · exact .inl hm
    · refine .inr ⟨?_, fun u hu => ?_⟩
      · rw [e, List.length_take] at hn ⊢
        omega
      · by_cases hc : t ∈ CL ps w n
        · rw [← List.take_append_drop N (CL ps w n)] at hc
          rw [e] at hm hu
          rcases List.mem_append.mp hc with q | q
          · exact absurd q hm
          · have pw := CL_pw (ps := ps) (w := w) (n := n)
            rw [← List.take_append_drop N (CL ps w n)] at pw
            exact (List.pairwise_append.mp pw).2.2 u hu t q
        · rw [e] at hu
          have h1 := (CL_mem.mp (List.mem_of_mem_take hu)).1
          have h2 : ¬ t.length < n := fun z => hc (CL_mem.mpr ⟨z, hl, ht⟩)
          exact .inl (by omega)
end
end
section
section
variable {ps : List (List Nat)} {w : List Bool} {F : List Qs}
theorem GF.all (g : GF ps F) : ∀ (n : Nat) (t : List Nat), t.length = n → (∀ c ∈ t, c ∈ letters) → qs ps t ∈ F
  | 0, t, e, _ => by
    have := List.eq_nil_of_length_eq_zero e
    subst this
    exact g.m0
  | n + 1, t, e, h => by
    have hne : t ≠ [] := fun z => by subst z; cases e
    obtain ⟨u, c, rfl⟩ : ∃ u c, t = u ++ [c] := ⟨t.dropLast, t.getLast hne, (List.dropLast_concat_getLast hne).symm⟩
    have := g.c _ (GF.all g n u (by rw [List.length_append] at e; exact Nat.add_right_cancel e) fun z hz => h z (List.mem_append_left _ hz)) c (h c (List.mem_append_right _ (List.mem_singleton.mpr rfl)))
    rw [nxq_qs] at this
    exact this
theorem found2 (g : GF ps F) (h : okPs ps) (hw : w.length = ps.length) {N : Nat} (hN : N ≤ 50) :
    ∃ L o, m_texts_of_class [.d (.lst (F.map (clD ps))), .d (stG F ps), .d (.tup (w.map .bl)), .d (.int (N : Nat))] = some (.ok (.own (.lst (L.map .str))) o) ∧ (L.length ≤ N ∧ ∀ t ∈ L, t.length ≤ 385 * N ∧ ∀ c ∈ t, c ∈ letters) ∧ FC ps w N L := by
  have l3 := h.1
  obtain ⟨n, o, e, h1, h2⟩ := ev_toc (w := w) (fun t ht c hc => by rw [← nxq_qs]; exact g.c _ ht _ hc) g.c g.h0 (by have := g.len; omega) (fun s hs => by
    obtain ⟨t, rfl⟩ := g.q s hs
    rw [cB_len]; omega) (by omega) (g.e w) hN
  refine ⟨_, o, e, ⟨fnd_le h1, fun t ht => ?_⟩, fnd_FC (fun t ht => GF.all g _ t rfl ht) h1 h2⟩
  obtain ⟨a, b, c⟩ := fnd_tx n t ht
  refine ⟨?_, b⟩
  by_cases z : t.length ≤ 385 * N
  · exact z
  · have q1 := g.e w N t.length (by omega) ⟨_, g.m0, c⟩
    have q2 := cnt_fnd (ps := ps) (w := w) (N := N) t.length fun i hi => h1 i (by omega)
    have := h1 t.length a
    omega
end
theorem ev_bef {a b : List Nat} (h : bef a b) (ha : a.length ≤ 20000) (hb : b.length ≤ 20000) : ∃ o, m_ulawubefore [.d (.str a), .d (.str b)] = some (.ok (.d (.bl true)) o) := by
  have : wF (m_ulawubefore [.d (.str a), .d (.str b)]) (fun u _ => u = .d (.bl true)) nX := by
    refine w_defM rfl (by fail "S") ?_
    unfold b_ulawubefore
    have hs : (100000 : Nat) ≤ sizeLine := by decide
    have la : lenD [.str a] = some (.d (.int (a.length : Nat))) := Dw.len_str (by omega)
    have lb : lenD [.str b] = some (.d (.int (b.length : Nat))) := Dw.len_str (by omega)
    rcases h with h | ⟨h1, h2⟩
    · have ne : neD (.int (a.length : Nat)) (.int (b.length : Nat)) = some (.d (.bl true)) := by
        rw [Dw.ne_int]
        have : (((a.length : Nat) : Int) == ((b.length : Nat) : Int)) = false := beq_eq_false_iff_ne.mpr (by omega)
        rw [this]
        rfl
      have lt : ltG (.int (a.length : Nat)) (.int (b.length : Nat)) = some (.d (.bl true)) := by rw [Dw.lt_int', decide_eq_true (by omega)]
      (repeat' fail "V")
      rfl
    · have ne : neD (.int (a.length : Nat)) (.int (b.length : Nat)) = some (.d (.bl false)) := by
        rw [Dw.ne_int, h1, beq_self_eq_true]
        rfl
      have lt : ltG (.str a) (.str b) = some (.d (.bl true)) := by rw [Dw.lt_str', decide_eq_true h2]
      (repeat' fail "V")
      rfl
  obtain ⟨x, o, h1, rfl⟩ := wF_get this
  exact ⟨o, h1⟩
theorem let_rng {c : Nat} (h : c ∈ letters) : 97 ≤ c ∧ c < 123 := by
  have : ∀ c ∈ letters, 97 ≤ c ∧ c < 123 := by decide
  exact this c h
theorem ev_ist {a : List Nat} (h : ∀ c ∈ a, c ∈ letters) (ha : a.length ≤ 20000) : ∃ o, m_ulawuisutext [.d (.str a)] = some (.ok (.d (.bl true)) o) := by
  have : wF (m_ulawuisutext [.d (.str a)]) (fun u _ => u = .d (.bl true)) nX := by
    refine w_defM rfl (by fail "S") ?_
    unfold b_ulawuisutext
    have is : isiD "str" (.str a) = true := rfl
    have it : itemsD (.str a) = some (a.map fun c => .str [c]) := rfl
    (repeat' fail "V")
    · intro g; rw [is] at g; cases g
    intro _
    (repeat' fail "V")
    refine w_loopM (fun _ e => ∃ w, freeSlot (some w) = true ∧ e = [.d (.str a), w]) ⟨.un, rfl, rfl⟩ ?_ ?_
    · rintro pre c suf _ hx ⟨w, fw, rfl⟩
      refine ⟨[.d (.str a), .d (.str [c])], put_nm fw rfl, ?_⟩
      obtain ⟨l1, l2⟩ := let_rng (h c (by rw [hx]; exact List.mem_append_right _ (List.mem_cons_self ..)))
      have o1 : ordC [.str [c]] = some (.d (.int (c : Nat))) := rfl
      have lt : ltG (.int (c : Nat)) (.int 97) = some (.d (.bl false)) := by rw [Dw.lt_int', decide_eq_false (by omega)]
      have gt : gtD (.int (c : Nat)) (.int 122) = some (.d (.bl false)) := by rw [Dw.gt_int', decide_eq_false (by omega)]
      unfold l_ulawuisutext_1
      (repeat' fail "V")
      exact ⟨_, rfl, rfl⟩
    · rintro _ ⟨w, fw, rfl⟩
      (repeat' fail "V")
      rfl
  obtain ⟨x, o, h1, rfl⟩ := wF_get this
  exact ⟨o, h1⟩
end
section
section
variable {ps : List (List Nat)}
theorem bfs_zero : bfs ps 0 = [qs ps []] := rfl
theorem prog_all (s : Qs) : (progLs ps).map (fun c => nxq ps c s) = letters.map fun c => nxq ps c s := rep_same s letters none fun a e => by cases e
theorem bef_app {a b : List Nat} {c d : Nat} (h : bef a b) : bef (a ++ [c]) (b ++ [d]) := by
  rcases h with h | ⟨h1, h2⟩
  · left; rw [List.length_append, List.length_append]; exact Nat.add_lt_add_right h 1
  · right; exact ⟨by rw [List.length_append, List.length_append, h1]; rfl, lt_app a b h2 h1⟩
theorem bef_same {a : List Nat} {c d : Nat} (h : c < d) : bef (a ++ [c]) (a ++ [d]) := .inr ⟨by rw [List.length_append, List.length_append]; rfl, lt_same a (List.cons_lt_cons_iff.mpr (.inl h))⟩
theorem bef_nil {a : List Nat} {c : Nat} : bef [] (a ++ [c]) := .inl (by rw [List.length_append]; exact Nat.succ_pos _)
theorem bef_trans {a b c : List Nat} (h : bef a b) (g : bef b c) : bef a c := by
  rcases h with h | ⟨h1, h2⟩ <;> rcases g with g | ⟨g1, g2⟩
  · exact .inl (by omega)
  · exact .inl (by omega)
  · exact .inl (by omega)
  · exact .inr ⟨by omega, List.lt_trans h2 g2⟩
def addT (ps : List (List Nat)) (T l : List (List Nat)) : List (List Nat) := l.foldl (fun T t => if qs ps t ∈ T.map (qs ps) then T else T ++ [t]) T
def bT (ps : List (List Nat)) : Nat → List (List Nat)
  | 0 => [[]]
  | n + 1 => match (bT ps n)[n]? with
    | some u => addT ps (bT ps n) (letters.map fun c => u ++ [c])
    | none => bT ps n
theorem addT_map : ∀ (l T : List (List Nat)), (addT ps T l).map (qs ps) = addQ (T.map (qs ps)) (l.map (qs ps))
  | [], _ => rfl
  | t :: l, T => by
    show (addT ps (if qs ps t ∈ T.map (qs ps) then T else T ++ [t]) l).map (qs ps) = _
    rw [addT_map l, List.map_cons, addQ_cons]
    by_cases h : qs ps t ∈ T.map (qs ps)
    · rw [if_pos h, add1_in h]
    · rw [if_neg h, add1_new h, List.map_append]; rfl
theorem bT_map : ∀ n, (bT ps n).map (qs ps) = bfs ps n
  | 0 => by rw [bfs_zero]; rfl
  | n + 1 => by
    have ih := bT_map n
    cases h : (bT ps n)[n]? with
    | none =>
      have h2 : (bfs ps n)[n]? = none := by rw [← ih, List.getElem?_map, h]; rfl
      rw [bfs_none h2, ← ih, bT, h]
    | some u =>
      have h2 : (bfs ps n)[n]? = some (qs ps u) := by rw [← ih, List.getElem?_map, h]; rfl
      rw [bfs_prog h2, prog_all, bT, h]
      show (addT ps (bT ps n) (letters.map fun c => u ++ [c])).map (qs ps) = _
      rw [addT_map, ih, List.map_map]
      congr 1
      exact List.map_congr_left fun c _ => nxq_qs.symm
/-- what is known of the texts at step n -/
structure BT (ps : List (List Nat)) (n : Nat) (T : List (List Nat)) : Prop where
  z : T[0]? = some []
  l : ∀ t ∈ T, ∀ c ∈ t, c ∈ letters
  pw : T.Pairwise bef
  src : ∀ t ∈ T, t = [] ∨ ∃ i u c, i < n ∧ T[i]? = some u ∧ t = u ++ [c]
  cl : ∀ i u c, i < n → T[i]? = some u → c ∈ letters → ∃ v ∈ T, qs ps v = qs ps (u ++ [c]) ∧ (v = u ++ [c] ∨ bef v (u ++ [c]))
theorem pw_at {T : List (List Nat)} {i j : Nat} {u v : List Nat} (p : T.Pairwise bef) (hu : T[i]? = some u) (hv : T[j]? = some v) (h : i < j) : bef u v := by
  obtain ⟨hi, rfl⟩ := List.getElem?_eq_some_iff.mp hu
  obtain ⟨hj, rfl⟩ := List.getElem?_eq_some_iff.mp hv
  exact List.pairwise_iff_getElem.mp p i j hi hj h
/-- one state's letters -/
theorem addT_step {n : Nat} {T : List (List Nat)} {u : List Nat} (B : BT ps n T) (hu : T[n]? = some u) : ∀ (l pre : List Nat) (Z : List (List Nat)), letters = pre ++ l → (T ++ Z).Pairwise bef → (∀ z ∈ Z, ∃ c ∈ pre, z = u ++ [c]) →
    (∀ c ∈ pre, ∃ v ∈ T ++ Z, qs ps v = qs ps (u ++ [c]) ∧ (v = u ++ [c] ∨ bef v (u ++ [c]))) →
    ∃ Z', addT ps (T ++ Z) (l.map fun c => u ++ [c]) = T ++ Z' ∧ (T ++ Z').Pairwise bef ∧ (∀ z ∈ Z', ∃ c ∈ letters, z = u ++ [c]) ∧ (∀ c ∈ letters, ∃ v ∈ T ++ Z', qs ps v = qs ps (u ++ [c]) ∧ (v = u ++ [c] ∨ bef v (u ++ [c])))
  | [], pre, Z, e, h1, h2, h3 => by
    rw [List.append_nil] at e
    rw [e]
    exact ⟨Z, rfl, h1, h2, h3⟩
  | c :: l, pre, Z, e, h1, h2, h3 => by
    have hlt : ∀ d ∈ pre, d < c := fun d hd => by
      have := let_pw
      rw [e] at this
      exact (List.pairwise_append.mp this).2.2 d hd c (List.mem_cons_self ..)
    have before : ∀ v ∈ T ++ Z, bef v (u ++ [c]) := fun v hv => by
      rcases List.mem_append.mp hv with g | g
      · rcases B.src v g with rfl | ⟨i, w, d, hi, hw, rfl⟩
        · exact bef_nil
        · exact bef_app (pw_at B.pw hw hu hi)
      · obtain ⟨d, hd, rfl⟩ := h2 v g
        exact bef_same (hlt d hd)
    have e' : letters = (pre ++ [c]) ++ l := by rw [e, List.append_assoc]; rfl
    show ∃ Z', addT ps (if qs ps (u ++ [c]) ∈ (T ++ Z).map (qs ps) then T ++ Z else (T ++ Z) ++ [u ++ [c]]) (l.map fun c => u ++ [c]) = T ++ Z' ∧ _
    by_cases g : qs ps (u ++ [c]) ∈ (T ++ Z).map (qs ps)
    · rw [if_pos g]
      obtain ⟨v, hv, ev⟩ := List.mem_map.mp g
      exact addT_step B hu l (pre ++ [c]) Z e' h1 (fun z hz => by obtain ⟨d, hd, h⟩ := h2 z hz; exact ⟨d, List.mem_append_left _ hd, h⟩) fun d hd => by
        rcases List.mem_append.mp hd with q | q
        · exact h3 d q
        · rw [List.mem_singleton.mp q]
          exact ⟨v, hv, ev, .inr (before v hv)⟩
    · rw [if_neg g, List.append_assoc]
      refine addT_step B hu l (pre ++ [c]) (Z ++ [u ++ [c]]) e' ?_ (fun z hz => ?_) fun d hd => ?_
      · rw [← List.append_assoc]
        exact List.pairwise_append.mpr ⟨h1, List.pairwise_singleton .., fun a ha b hb => by rw [List.mem_singleton.mp hb]; exact before a ha⟩
      · rcases List.mem_append.mp hz with q | q
        · obtain ⟨d, hd, h⟩ := h2 z q
          exact ⟨d, List.mem_append_left _ hd, h⟩
        · exact ⟨c, List.mem_append_right _ (List.mem_singleton.mpr rfl), List.mem_singleton.mp q⟩
      · rcases List.mem_append.mp hd with q | q
        · obtain ⟨v, hv, h⟩ := h3 d q
          exact ⟨v, by rw [← List.append_assoc]; exact List.mem_append_left _ hv, h⟩
        · rw [List.mem_singleton.mp q]
          exact ⟨u ++ [c], by rw [← List.append_assoc]; exact List.mem_append_right _ (List.mem_singleton.mpr rfl), rfl, .inl rfl⟩
theorem bT_ok : ∀ n, BT ps n (bT ps n)
  | 0 => by
    refine ⟨rfl, fun t ht c hc => ?_, List.pairwise_singleton .., fun t ht => .inl (List.mem_singleton.mp ht), fun i u c hi => absurd hi (Nat.not_lt_zero _)⟩
    rw [List.mem_singleton.mp ht] at hc
    cases hc
  | n + 1 => by
    have B := bT_ok n
    cases h : (bT ps n)[n]? with
    | none =>
      have e : bT ps (n + 1) = bT ps n := by rw [bT, h]
      rw [e]
      refine ⟨B.z, B.l, B.pw, fun t ht => ?_, fun i u c hi hu hc => ?_⟩
      · rcases B.src t ht with g | ⟨i, u, c, a, b⟩
        · exact .inl g
        · exact .inr ⟨i, u, c, by omega, b⟩
      · by_cases g : i < n
        · exact B.cl i u c g hu hc
        · have : i = n := by omega
          rw [this, h] at hu
          cases hu
    | some u =>
      have e : bT ps (n + 1) = addT ps (bT ps n ++ []) (letters.map fun c => u ++ [c]) := by rw [bT, h, List.append_nil]
      obtain ⟨Z, e2, g1, g2, g3⟩ := addT_step B h letters [] [] rfl (by rw [List.append_nil]; exact B.pw) (fun z hz => by cases hz) fun c hc => by cases hc
      rw [e, e2]
      generalize bT ps n = T at *
      have up : ∀ {i : Nat} {w : List Nat}, T[i]? = some w → (T ++ Z)[i]? = some w := fun {i w} hw => by rw [List.getElem?_append_left (List.getElem?_eq_some_iff.mp hw).1]; exact hw
      have ul : ∀ c ∈ u, c ∈ letters := B.l u (List.mem_of_getElem? h)
      refine ⟨up B.z, fun t ht => ?_, g1, fun t ht => ?_, fun i w c hi hw hc => ?_⟩
      · rcases List.mem_append.mp ht with q | q
        · exact B.l t q
        · obtain ⟨c, hc, rfl⟩ := g2 t q
          intro z hz
          rcases List.mem_append.mp hz with y | y
          · exact ul z y
          · rw [List.mem_singleton.mp y]; exact hc
      · rcases List.mem_append.mp ht with q | q
        · rcases B.src t q with y | ⟨i, w, c, a, b, d⟩
          · exact .inl y
          · exact .inr ⟨i, w, c, by omega, up b, d⟩
        · obtain ⟨c, hc, rfl⟩ := g2 t q
          exact .inr ⟨n, u, c, Nat.lt_succ_self n, up h, rfl⟩
      · by_cases g : i < n
        · have hw' : T[i]? = some w := by
            have : i < T.length := Nat.lt_trans g (List.getElem?_eq_some_iff.mp h).1
            rw [List.getElem?_append_left this] at hw
            exact hw
          obtain ⟨v, hv, r⟩ := B.cl i w c g hw' hc
          exact ⟨v, List.mem_append_left _ hv, r⟩
        · have : i = n := by omega
          subst this
          rw [up h] at hw
          cases hw
          exact g3 c hc
/-- each state stands by its first text -/
theorem bT_min {n : Nat} (hn : (bT ps n).length ≤ n) : ∀ (k : Nat) (t : List Nat), t.length = k → (∀ c ∈ t, c ∈ letters) → ∃ v ∈ bT ps n, qs ps v = qs ps t ∧ (v = t ∨ bef v t)
  | 0, t, e, _ => by
    have := List.eq_nil_of_length_eq_zero e
    subst this
    exact ⟨[], List.mem_of_getElem? (bT_ok n).z, rfl, .inl rfl⟩
  | k + 1, t, e, h => by
    have hne : t ≠ [] := fun z => by subst z; cases e
    obtain ⟨u, c, rfl⟩ : ∃ u c, t = u ++ [c] := ⟨t.dropLast, t.getLast hne, (List.dropLast_concat_getLast hne).symm⟩
    obtain ⟨v, hv, e1, o1⟩ := bT_min hn k u (by rw [List.length_append] at e; exact Nat.add_right_cancel e) fun z hz => h z (List.mem_append_left _ hz)
    obtain ⟨i, hi⟩ := List.mem_iff_getElem?.mp hv
    have hil := (List.getElem?_eq_some_iff.mp hi).1
    obtain ⟨x, hx, e2, o2⟩ := (bT_ok n).cl i v c (by omega) hi (h c (List.mem_append_right _ (List.mem_singleton.mpr rfl)))
    refine ⟨x, hx, by rw [e2, ← nxq_qs, e1, nxq_qs], ?_⟩
    have o3 : v ++ [c] = u ++ [c] ∨ bef (v ++ [c]) (u ++ [c]) := by
      rcases o1 with rfl | o1
      · exact .inl rfl
      · exact .inr (bef_app o1)
    rcases o2 with rfl | o2
    · exact o3
    · rcases o3 with o3 | o3
      · rw [← o3]; exact .inr o2
      · exact .inr (bef_trans o2 o3)
end
section
variable {α : Type} [DecidableEq α]
def nb (K : List α) : List α → List α
  | [] => K
  | m :: M => nb (if m ∈ K then K else K ++ [m]) M
theorem nb_app : ∀ (M M' K : List α), nb K (M ++ M') = nb (nb K M) M'
  | [], _, _ => rfl
  | x :: M, M', K => by rw [List.cons_append, nb, nb_app M M', nb]
theorem nb_one (M : List α) (m : α) : nb [] (M ++ [m]) = if m ∈ nb [] M then nb [] M else nb [] M ++ [m] := by
  rw [nb_app]
  rfl
theorem nb_sub : ∀ (M K : List α) (y : α), y ∈ nb K M → y ∈ K ∨ y ∈ M
  | [], _, _, h => .inl h
  | x :: M, K, y, h => by
    rw [nb] at h
    rcases nb_sub M _ y h with h | h
    · split at h
      · exact .inl h
      · rcases List.mem_append.mp h with h | h
        · exact .inl h
        · rw [List.mem_singleton.mp h]; exact .inr (List.mem_cons_self ..)
    · exact .inr (List.mem_cons_of_mem _ h)
theorem nb_mono : ∀ (M K : List α) (y : α), y ∈ K → y ∈ nb K M
  | [], _, _, h => h
  | x :: M, K, y, h => by
    rw [nb]
    refine nb_mono M _ y ?_
    split
    · exact h
    · exact List.mem_append_left _ h
theorem nb_has : ∀ (M K : List α) (y : α), y ∈ M → y ∈ nb K M
  | x :: M, K, y, h => by
    rw [nb]
    rcases List.mem_cons.mp h with rfl | h
    · refine nb_mono M _ y ?_
      split
      · assumption
      · exact List.mem_append_right _ (List.mem_singleton.mpr rfl)
    · exact nb_has M _ y h
theorem nb_len : ∀ (M K : List α), (nb K M).length ≤ K.length + M.length
  | [], _ => Nat.le_refl _
  | x :: M, K => by
    have := nb_len M (if x ∈ K then K else K ++ [x])
    have : (if x ∈ K then K else K ++ [x]).length ≤ K.length + 1 := by
      split
      · omega
      · rw [List.length_append]; exact Nat.le_refl _
    rw [nb, List.length_cons]
    omega
theorem snoc_ind {β : Type} {P : List β → Prop} (h0 : P []) (h1 : ∀ l x, P l → P (l ++ [x])) : ∀ l, P l := fun l => by
  have : ∀ (n : Nat) (l : List β), l.length = n → P l := fun n => by
    induction n with
    | zero => intro l e; rw [List.eq_nil_of_length_eq_zero e]; exact h0
    | succ n ih =>
      intro l e
      have hne : l ≠ [] := fun z => by subst z; cases e
      rw [← List.dropLast_concat_getLast hne]
      exact h1 _ _ (ih _ (by rw [List.length_dropLast, e]; rfl))
  exact this _ l rfl
/-- of two classes the earlier one is met before the later one -/
theorem nb_pw {β : Type} (g : β → α) (T : List β) : (nb [] (T.map g)).Nodup ∧ (nb [] (T.map g)).Pairwise fun a b => ∃ pre t suf, T = pre ++ t :: suf ∧ g t = a ∧ ∀ z ∈ pre ++ [t], g z ≠ b := by
  refine snoc_ind (P := fun T => (nb [] (T.map g)).Nodup ∧ (nb [] (T.map g)).Pairwise fun a b => ∃ pre t suf, T = pre ++ t :: suf ∧ g t = a ∧ ∀ z ∈ pre ++ [t], g z ≠ b) ⟨List.nodup_nil, List.Pairwise.nil⟩ (fun T x ⟨n1, ih⟩ => ?_) T
  have up : (nb [] (T.map g)).Pairwise fun a b => ∃ pre t suf, T ++ [x] = pre ++ t :: suf ∧ g t = a ∧ ∀ z ∈ pre ++ [t], g z ≠ b := List.Pairwise.imp (fun {a b} ⟨pre, t, suf, e, h⟩ => ⟨pre, t, suf ++ [x], by rw [e, List.append_assoc]; rfl, h⟩) ih
  rw [List.map_append, List.map_singleton, nb_one]
  split
  · exact ⟨n1, up⟩
  · rename_i hx
    refine ⟨List.nodup_append.mpr ⟨n1, List.nodup_cons.mpr ⟨List.not_mem_nil, List.nodup_nil⟩, fun a ha b hb e => ?_⟩, List.pairwise_append.mpr ⟨up, List.pairwise_singleton .., fun a ha b hb => ?_⟩⟩
    · rw [List.mem_singleton.mp hb] at e
      exact hx (e ▸ ha)
    rw [List.mem_singleton.mp hb]
    rcases nb_sub _ _ _ ha with z | z
    · cases z
    · obtain ⟨t, ht, rfl⟩ := List.mem_map.mp z
      obtain ⟨pre, suf, e⟩ := List.append_of_mem ht
      refine ⟨pre, t, suf ++ [x], by rw [e, List.append_assoc]; rfl, rfl, fun z hz e2 => ?_⟩
      refine hx ?_
      rw [← e2]
      refine nb_has _ _ _ (List.mem_map.mpr ⟨z, ?_, rfl⟩)
      rw [e]
      rcases List.mem_append.mp hz with q | q
      · exact List.mem_append_left _ q
      · rw [List.mem_singleton.mp q]; exact List.mem_append_right _ (List.mem_cons_self ..)
end
end
section
abbrev bls (w : List Bool) : D := .tup (w.map .bl)
def kB (w : List Bool) : NestedKey := .tup (w.map fun b => .num (if b = true then 1 else 0))
theorem nk_bls (w : List Bool) : nkD (bls w) = some (kB w) := by
  unfold bls
  rw [nkD, nkDs_map (g := fun b => .num (if b = true then 1 else 0)) fun b _ => by rw [nkD]]
  rfl
theorem kB_inj (a b : List Bool) (h : kB a = kB b) : a = b := by
  unfold kB at h
  injection h with h
  exact map_inj' (fun x y e => by cases x <;> cases y <;> first | rfl | (injection e with e; cases e)) h
theorem key_bls (a b : List Bool) : keyU (bls a) (bls b) = decide (a = b) := by
  rw [keyU_dec (nk_bls a) (nk_bls b)]
  by_cases h : a = b
  · rw [decide_eq_true h, h, decide_eq_true rfl]
  · rw [decide_eq_false h, decide_eq_false fun z => h (kB_inj a b z)]
theorem has_bls (w : List Bool) : ∀ X : List (List Bool), hasU (X.map bls) (bls w) = decide (w ∈ X)
  | [] => rfl
  | x :: X => by
    have ih := has_bls w X
    unfold hasU at ih ⊢
    rw [List.map_cons, List.any_cons, ih, key_bls, Bool.eq_iff_iff, Bool.or_eq_true, decide_eq_true_eq, decide_eq_true_eq, decide_eq_true_eq, List.mem_cons]
    exact or_congr ⟨fun e => e.symm, fun e => e.symm⟩ Iff.rfl
theorem ok_bls (w : List Bool) : okKU (bls w) = true := by
  have e : okKU (bls w) = (match nkD (bls w) with | some q => decide (q.depth ≤ 8) | none => false) := rfl
  rw [e, nk_bls]
  refine decide_eq_true ?_
  unfold kB
  have : NestedKey.depthAll (w.map fun b => NestedKey.num (if b = true then 1 else 0)) ≤ 1 := dep_all _ fun k hk => by
    obtain ⟨l, _, rfl⟩ := List.mem_map.mp hk
    simp [NestedKey.depth]
  simp only [NestedKey.depth]
  omega
theorem put_new {K : List (List Bool)} {vs : List D} {w : List Bool} {y : D} (h : w ∉ K) : C.dcu (putUk (K.map bls) (bls w)) (putUv (K.map bls) vs (bls w) y) = .dcu ((K ++ [w]).map bls) (vs ++ [y]) := by
  unfold putUk putUv
  rw [has_bls, decide_eq_false h, if_neg (by simp), if_neg (by simp), List.map_append]
  rfl
theorem put_old {K : List (List Bool)} {vs : List D} {w : List Bool} {y : D} (h : w ∈ K) : ∃ vs', C.dcu (putUk (K.map bls) (bls w)) (putUv (K.map bls) vs (bls w) y) = .dcu (K.map bls) vs' := by
  unfold putUk putUv
  rw [has_bls, decide_eq_true h, if_pos rfl, if_pos rfl]
  exact ⟨_, rfl⟩
theorem ev_wr {M : List (List Bool)} (hl : M.length ≤ 5000) : ∃ o, m_without_repeats [.d (.lst (M.map bls))] = some (.ok (.own (.lst ((nb [] M).map bls))) o) := by
  have : wF (m_without_repeats [.d (.lst (M.map bls))]) (fun u _ => u = .own (.lst ((nb [] M).map bls))) nX := by
    refine w_defM rfl (by fail "S") ?_
    unfold b_without_repeats
    (repeat' fail "V")
    refine w_turns (d := bls) (l := M) (fun pre acc => ∃ vs, acc = .dcu ((nb [] pre).map bls) vs) ⟨[], rfl⟩ ?_ ?_
    · rintro pre x suf _ hx ⟨vs, rfl⟩
      refine wT_n (env1 := [.d (.lst (M.map bls)), .d (bls x)]) rfl ?_
      have nl := nb_len pre ([] : List (List Bool))
      have pl : pre.length ≤ M.length := by rw [hx, List.length_append]; omega
      refine wBd_0 (wBd_u (by rw [List.length_map]; simp at nl; omega) ?_)
      unfold k_without_repeats_1 e_without_repeats_2
      (repeat' fail "V")
      refine ⟨_, rfl, ok_bls x, ?_⟩
      (repeat' fail "V")
      refine ⟨_, _, rfl, rfl, ?_⟩
      rw [nb_one]
      by_cases h : x ∈ nb [] pre
      · rw [if_pos h]
        exact put_old h
      · rw [if_neg h]
        exact ⟨_, put_new h⟩
    · rintro _ ⟨vs, rfl⟩
      show wA nilA [.d (.lst (M.map bls)), .un] _ _
      (repeat' fail "V")
      exact ⟨_, _, rfl, rfl, rfl⟩
  obtain ⟨a, o, h1, rfl⟩ := wF_get this
  exact ⟨o, h1⟩
end
section
section
variable {ps : List (List Nat)} {F : List Qs}
def KS (ps : List (List Nat)) (F : List Qs) : List (List Bool) := nb [] (F.map (cB ps))
theorem cls_map : F.map (clD ps) = (F.map (cB ps)).map bls := by rw [List.map_map]; rfl
theorem KS_nd : (KS ps F).Nodup := (nb_pw (cB ps) F).1
theorem KS_le : (KS ps F).length ≤ F.length := by
  have := nb_len (F.map (cB ps)) []
  rw [List.length_map, List.length_nil] at this
  unfold KS
  omega
theorem ev_ac (h : okPs ps) (g : GF ps F) {og : List SV} (gr : m_state_graph [.d (.lst (sL ps))] = some (.ok (.d (.tup [.lst (F.map eQ), stG F ps])) og)) : ∃ o, m_all_classes [.d (.lst (sL ps))] = some (.ok (.own (.lst ((KS ps F).map bls))) o) := by
  have : wF (m_all_classes [.d (.lst (sL ps))]) (fun u _ => u = .own (.lst ((KS ps F).map bls))) nX := by
    refine w_defM rfl (by fail "S") ?_
    unfold b_all_classes
    obtain ⟨o1, cl⟩ := ev_classes (F := F) h g.q (by have := g.len; omega)
    rw [cls_map] at cl
    obtain ⟨o2, wr⟩ := ev_wr (M := F.map (cB ps)) (by rw [List.length_map]; have := g.len; omega)
    have wr : m_without_repeats [.d (.lst ((F.map (cB ps)).map bls))] = some (.ok (.own (.lst ((KS ps F).map bls))) o2) := wr
    generalize (F.map (cB ps)).map bls = CL at cl wr
    generalize F.map eQ = FE at gr cl
    generalize stG F ps = ST at gr
    generalize (KS ps F).map bls = KL at wr ⊢
    generalize sL ps = LP at gr cl ⊢
    (repeat' fail "V")
    rfl
  obtain ⟨a, o, h1, rfl⟩ := wF_get this
  exact ⟨o, h1⟩
theorem ev_tab (h : okPs ps) (g : GF ps F) {og : List SV} (gr : m_state_graph [.d (.lst (sL ps))] = some (.ok (.d (.tup [.lst (F.map eQ), stG F ps])) og)) {c : Nat} {Lw : List Bool → List (List Nat)}
    (hw : ∀ w ∈ KS ps F, ∃ o, m_texts_of_class [.d (.lst (F.map (clD ps))), .d (stG F ps), .d (.tup (w.map .bl)), .d (.int (c : Nat))] = some (.ok (.own (.lst ((Lw w).map .str))) o)) :
    ∃ o, m_first_table [.d (.lst (sL ps)), .d (.int (c : Nat))] = some (.ok (.own (.dcu ((KS ps F).map bls) ((KS ps F).map fun w => .lst ((Lw w).map .str)))) o) := by
  have : wF (m_first_table [.d (.lst (sL ps)), .d (.int (c : Nat))]) (fun u _ => u = .own (.dcu ((KS ps F).map bls) ((KS ps F).map fun w => .lst ((Lw w).map .str)))) nX := by
    refine w_defM rfl (by fail "S") ?_
    unfold b_first_table
    have nd := KS_nd (ps := ps) (F := F)
    have le := KS_le (ps := ps) (F := F)
    have gl := g.len
    obtain ⟨o1, cl⟩ := ev_classes (F := F) h g.q (by omega)
    obtain ⟨o2, wr⟩ := ev_wr (M := F.map (cB ps)) (by rw [List.length_map]; omega)
    rw [← cls_map] at wr
    have wr : m_without_repeats [.d (.lst (F.map (clD ps)))] = some (.ok (.own (.lst ((KS ps F).map bls))) o2) := wr
    generalize KS ps F = KL at *
    generalize F.map (clD ps) = CL at *
    generalize F.map eQ = FE at *
    generalize stG F ps = ST at *
    generalize sL ps = LP at *
    have it : itemsD (.lst (KL.map bls)) = some (KL.map bls) := rfl
    generalize D.int (c : Nat) = cd at *
    (repeat' fail "V")
    refine w_turns (d := bls) (l := KL) (e0 := [.d (.lst LP), .d cd, .d (.lst CL), .d (.lst FE), .d ST, .un]) (fun pre acc => acc = .dcu (pre.map bls) (pre.map fun w => .lst ((Lw w).map .str))) rfl ?_ ?_
    · rintro pre x suf _ hx rfl
      refine wT_n (env1 := [.d (.lst LP), .d cd, .d (.lst CL), .d (.lst FE), .d ST, .d (bls x)]) rfl ?_
      have pl : pre.length ≤ KL.length := by rw [hx, List.length_append]; omega
      obtain ⟨o3, e3⟩ := hw x (by rw [hx]; exact List.mem_append_right _ (List.mem_cons_self ..))
      have e3 : m_texts_of_class [.d (.lst CL), .d ST, .d (bls x), .d cd] = some (.ok (.own (.lst ((Lw x).map .str))) o3) := e3
      refine wBd_0 (wBd_u (by rw [List.length_map]; omega) ?_)
      unfold k_first_table_1 e_first_table_2
      have okb := ok_bls x
      have pn := put_new (K := pre) (vs := pre.map fun w => .lst ((Lw w).map .str)) (w := x) (y := .lst ((Lw x).map .str)) (fun hm => by
        rw [hx] at nd
        exact (List.nodup_append.mp nd).2.2 x hm x (List.mem_cons_self ..) rfl)
      have pe : (pre.map fun w => D.lst ((Lw w).map .str)) ++ [.lst ((Lw x).map .str)] = (pre ++ [x]).map fun w => D.lst ((Lw w).map .str) := by rw [List.map_append]; rfl
      rw [pe] at pn
      generalize (Lw x).map D.str = LX at *
      generalize bls x = bx at *
      (repeat' fail "V")
      refine ⟨_, rfl, okb, ?_⟩
      (repeat' fail "V")
      refine ⟨_, _, rfl, rfl, ?_⟩
      exact pn
    · rintro _ rfl
      exact ⟨_, _, rfl, rfl, rfl⟩
  obtain ⟨a, o, h1, rfl⟩ := wF_get this
  exact ⟨o, h1⟩
theorem ev_fr (h : okPs ps) (g : GF ps F) {og : List SV} (gr : m_state_graph [.d (.lst (sL ps))] = some (.ok (.d (.tup [.lst (F.map eQ), stG F ps])) og)) {c : Nat} {Lw : List Bool → List (List Nat)}
    (hw : ∀ w ∈ KS ps F, ∃ o, m_texts_of_class [.d (.lst (F.map (clD ps))), .d (stG F ps), .d (.tup (w.map .bl)), .d (.int (c : Nat))] = some (.ok (.own (.lst ((Lw w).map .str))) o)) :
    ∃ o, m_first_rows [.d (.lst (sL ps)), .d (.int (c : Nat))] = some (.ok (.own (.lst ((KS ps F).map fun w => .lst ((Lw w).map .str)))) o) := by
  have : wF (m_first_rows [.d (.lst (sL ps)), .d (.int (c : Nat))]) (fun u _ => u = .own (.lst ((KS ps F).map fun w => .lst ((Lw w).map .str)))) nX := by
    refine w_defM rfl (by fail "S") ?_
    unfold b_first_rows
    obtain ⟨o1, e⟩ := ev_tab h g gr hw
    refine w_ret (w_vals ?_)
    (repeat' fail "V")
    exact ⟨_, _, rfl, rfl, rfl⟩
  obtain ⟨a, o, h1, rfl⟩ := wF_get this
  exact ⟨o, h1⟩
end
end
section
theorem eqB_bls (a b : List Bool) : eqB (bls a) (bls b) = decide (a = b) := by
  unfold bls
  rw [eqB, eqBs_bl]
theorem inB_bls (s : List Bool) : ∀ X : List (List Bool), inB (bls s) (X.map bls) = decide (s ∈ X)
  | [] => rfl
  | x :: X => by
    have ih := inB_bls s X
    unfold inB at ih ⊢
    rw [List.map_cons, List.any_cons, ih, eqB_bls, Bool.eq_iff_iff, Bool.or_eq_true, decide_eq_true_eq, decide_eq_true_eq, decide_eq_true_eq, List.mem_cons]
    exact or_congr ⟨fun e => e.symm, fun e => e.symm⟩ Iff.rfl
theorem gd_blss {X : List (List Bool)} (h : ∀ s ∈ X, s.length ≤ 10) : Gd (py (.lst (X.map bls))) 2 (X.length * 11) := by
  refine gd_lst (n := X.length) (d := 1) (b := 10) (fun x hx => ?_) (by rw [pys_len, List.length_map]; exact Nat.le_refl _)
  obtain ⟨y, hy, rfl⟩ := pys_mem _ _ hx
  obtain ⟨s, hs, rfl⟩ := List.mem_map.mp hy
  exact gd_bls (h s hs)
theorem in_bls {s : List Bool} {X : List (List Bool)} (hs : s.length ≤ 10) (h : ∀ s ∈ X, s.length ≤ 10) : inG (bls s) (.lst (X.map bls)) = some (.d (.bl (decide (s ∈ X)))) := by
  refine inG_in ?_
  show (if _ then _ else _) = _
  rw [if_pos (by rw [gd_shp (gd_bls hs) (by decide), gd_shp (gd_blss h) (by decide)]; simp), inB_bls]
theorem nin_bls {s : List Bool} {X : List (List Bool)} (hs : s.length ≤ 10) (h : ∀ s ∈ X, s.length ≤ 10) : notInG (bls s) (.lst (X.map bls)) = some (.d (.bl (!decide (s ∈ X)))) := notInG_of (in_bls hs h)
theorem eqBs_refl {α : Type} {f : α → D} : ∀ {l : List α}, (∀ x ∈ l, eqB (f x) (f x) = true) → eqBs (l.map f) (l.map f) = true
  | [], _ => by rw [List.map_nil, eqBs]
  | x :: l, h => by
    rw [List.map_cons, eqBs, h x (List.mem_cons_self ..), Bool.true_and]
    exact eqBs_refl fun y hy => h y (List.mem_cons_of_mem _ hy)
theorem ne_rows {K : List (List Bool)} {Lw : List Bool → List (List Nat)} (h : ∀ w ∈ K, ∀ t ∈ Lw w, ∀ c ∈ t, c < 128) : neD (.lst (K.map fun w => .lst ((Lw w).map .str))) (.lst (K.map fun w => .lst ((Lw w).map .str))) = some (.d (.bl false)) := by
  have sh : shp (.lst (K.map fun w => .lst ((Lw w).map .str))) = true := by
    obtain ⟨b, hb⟩ : ∃ b, ∀ w ∈ K, (Lw w).length ≤ b ∧ ∀ t ∈ Lw w, t.length ≤ b := by
      clear h
      induction K with
      | nil => exact ⟨0, fun t h => by cases h⟩
      | cons x K ih =>
        obtain ⟨b, hb⟩ := ih
        have : ∃ b, ∀ t ∈ Lw x, t.length ≤ b := by
          generalize Lw x = L
          induction L with
          | nil => exact ⟨0, fun t h => by cases h⟩
          | cons y L ih =>
            obtain ⟨b, hb⟩ := ih
            exact ⟨max y.length b, fun t ht => by
              rcases List.mem_cons.mp ht with rfl | ht
              · exact Nat.le_max_left ..
              · exact Nat.le_trans (hb t ht) (Nat.le_max_right ..)⟩
        obtain ⟨b2, hb2⟩ := this
        refine ⟨b + b2 + (Lw x).length, fun w hw => ?_⟩
        rcases List.mem_cons.mp hw with rfl | hw
        · exact ⟨by omega, fun t ht => by have := hb2 t ht; omega⟩
        · have := hb w hw
          exact ⟨by omega, fun t ht => by have := this.2 t ht; omega⟩
    refine gd_shp (d := 2) (b := K.length * (b * (b + 1) + 1)) (gd_lst (n := K.length) (d := 1) (b := b * (b + 1)) (fun x hx => ?_) (by rw [pys_len, List.length_map]; exact Nat.le_refl _)) (by decide)
    obtain ⟨y, hy, rfl⟩ := pys_mem _ _ hx
    obtain ⟨w, hw, rfl⟩ := List.mem_map.mp hy
    exact gd_strs (fun t ht => ⟨(hb w hw).2 t ht, h w hw t ht⟩) (hb w hw).1
  have e : eqB (.lst (K.map fun w => D.lst ((Lw w).map .str))) (.lst (K.map fun w => .lst ((Lw w).map .str))) = true := by
    rw [eqB]
    refine eqBs_refl fun w _ => ?_
    rw [eqB]
    exact eqBs_refl fun t _ => by rw [eqB]; exact beq_self_eq_true _
  unfold neD
  rw [sh, e]
  simp
theorem graph2 {ps : List (List Nat)} (h : okPs ps) : ∃ T : List (List Nat), GF ps (T.map (qs ps)) ∧ (∃ o, m_state_graph [.d (.lst (sL ps))] = some (.ok (.d (.tup [.lst ((T.map (qs ps)).map eQ), stG (T.map (qs ps)) ps])) o)) ∧ T.Pairwise bef ∧ (∀ t ∈ T, ∀ c ∈ t, c ∈ letters) ∧
    ∀ t, (∀ c ∈ t, c ∈ letters) → ∃ v ∈ T, qs ps v = qs ps t ∧ (v = t ∨ bef v t) := by
  obtain ⟨o, e⟩ := ev_graph h
  have g : GF ps (bfs ps 401) := ⟨bfs_len h 401, at_0 ps 401, bfs_qs 401, fun s hs c hc => bfs_closed h hs hc, fun w j n hn ha => cnt_ge h j n hn ha⟩
  have rw_ : ∀ s, D.lst (rowQ ps s) = .lst (letters.map fun c => .int ((bfs ps 401).idxOf (nxq ps c s) : Nat)) := fun s => by
    rw [row_all]
    unfold nr
    rfl
  have e2 : (bfs ps 401).map (fun s => D.lst (rowQ ps s)) = (bfs ps 401).map fun s => .lst (letters.map fun c => .int ((bfs ps 401).idxOf (nxq ps c s) : Nat)) := List.map_congr_left fun s _ => rw_ s
  rw [e2] at e
  have bm := bT_map (ps := ps) 401
  have B := bT_ok (ps := ps) 401
  have hl : (bT ps 401).length ≤ 401 := by
    have := g.len
    rw [← bm, List.length_map] at this
    omega
  have mn := fun t ht => bT_min hl _ t rfl ht
  rw [← bm] at e g
  generalize bT ps 401 = T at *
  exact ⟨T, g, ⟨o, e⟩, B.pw, B.l, mn⟩
section
variable {ps : List (List Nat)} {T : List (List Nat)}
/-- the first text of a class -/
structure Wit (ps : List (List Nat)) (w : List Bool) (x : List Nat) : Prop where
  l : ∀ c ∈ x, c ∈ letters
  len : x.length ≤ 20000
  cl : cB ps (qs ps x) = w
  mn : ∀ t, (∀ c ∈ t, c ∈ letters) → cB ps (qs ps t) = w → t = x ∨ bef x t
theorem KS_map : KS ps (T.map (qs ps)) = nb [] (T.map fun t => cB ps (qs ps t)) := by
  unfold KS
  rw [List.map_map]
  rfl
theorem KS_inh {w : List Bool} (hw : w ∈ KS ps (T.map (qs ps))) : ∃ t ∈ T, cB ps (qs ps t) = w := by
  rw [KS_map] at hw
  rcases nb_sub _ _ _ hw with h | h
  · cases h
  · exact List.mem_map.mp h
theorem KS_has {t : List Nat} (hm : qs ps t ∈ T.map (qs ps)) : cB ps (qs ps t) ∈ KS ps (T.map (qs ps)) := nb_has _ _ _ (List.mem_map.mpr ⟨_, hm, rfl⟩)
theorem wit_pw {Wt : List Bool → List Nat} (pw : T.Pairwise bef) (hl : ∀ t ∈ T, ∀ c ∈ t, c ∈ letters) (mn : ∀ t, (∀ c ∈ t, c ∈ letters) → ∃ v ∈ T, qs ps v = qs ps t ∧ (v = t ∨ bef v t))
    (hw : ∀ w ∈ KS ps (T.map (qs ps)), Wit ps w (Wt w)) : (KS ps (T.map (qs ps))).Pairwise fun a b => bef (Wt a) (Wt b) := by
  have P := (nb_pw (fun t => cB ps (qs ps t)) T).2
  rw [← KS_map] at P
  refine List.Pairwise.imp_of_mem (fun {a b} ha hb h => ?_) P
  obtain ⟨pre, t, suf, e, ga, gb⟩ := h
  have wa := hw a ha
  have wb := hw b hb
  have ht : t ∈ T := by rw [e]; exact List.mem_append_right _ (List.mem_cons_self ..)
  have h1 := wa.mn t (hl t ht) ga
  obtain ⟨v, hv, ev, ov⟩ := mn (Wt b) wb.l
  have hvb : v = Wt b := by
    rcases ov with h | h
    · exact h
    · rcases wb.mn v (hl v hv) (by rw [ev]; exact wb.cl) with q | q
      · exact q
      · exact (bef_irr (bef_trans h q)).elim
  rw [hvb] at hv
  have h2 : bef t (Wt b) := by
    rw [e] at hv pw
    have hp := List.pairwise_append.mp pw
    rcases List.mem_append.mp hv with q | q
    · exact absurd wb.cl (gb (Wt b) (List.mem_append_left _ q))
    · rcases List.mem_cons.mp q with q | q
      · exact absurd wb.cl (gb (Wt b) (by rw [q]; exact List.mem_append_right _ (List.mem_singleton.mpr rfl)))
      · exact (List.pairwise_cons.mp hp.2.1).1 (Wt b) q
  rcases h1 with h1 | h1
  · rw [← h1]; exact h2
  · exact bef_trans h1 h2
end
theorem FC_one {ps : List (List Nat)} {w : List Bool} {L : List (List Nat)} (f : FC ps w 1 L) (l : L.length ≤ 1) (hl : ∀ t ∈ L, t.length ≤ 385 * 1 ∧ ∀ c ∈ t, c ∈ letters) (hi : ∃ t, (∀ c ∈ t, c ∈ letters) ∧ cB ps (qs ps t) = w) : ∃ x, L = [x] ∧ Wit ps w x := by
  have cl : ∀ t, aN ps w 0 (qs ps t) = true ↔ cB ps (qs ps t) = w := fun t => by rw [aN, decide_eq_true_eq]
  match L, l, f, hl with
  | [], _, f, _ =>
    obtain ⟨t, h1, h2⟩ := hi
    rcases f.all t h1 ((cl t).mpr h2) with q | ⟨q, _⟩
    · cases q
    · cases q
  | [x], _, f, hl =>
    have hx := hl x (List.mem_singleton.mpr rfl)
    refine ⟨x, rfl, hx.2, by omega, (cl x).mp (f.cl x (List.mem_singleton.mpr rfl)), fun t h1 h2 => ?_⟩
    rcases f.all t h1 ((cl t).mpr h2) with q | ⟨_, q⟩
    · exact .inl (List.mem_singleton.mp q)
    · exact .inr (q x (List.mem_singleton.mpr rfl))
  | _ :: _ :: _, l, _, _ => simp at l
theorem ev_nbef {a b : List Nat} (h : ¬ bef a b) (ha : a.length ≤ 20000) (hb : b.length ≤ 20000) : ∃ o, m_ulawubefore [.d (.str a), .d (.str b)] = some (.ok (.d (.bl false)) o) := by
  have : wF (m_ulawubefore [.d (.str a), .d (.str b)]) (fun u _ => u = .d (.bl false)) nX := by
    refine w_defM rfl (by fail "S") ?_
    unfold b_ulawubefore
    have hs : (100000 : Nat) ≤ sizeLine := by decide
    have la : lenD [.str a] = some (.d (.int (a.length : Nat))) := Dw.len_str (by omega)
    have lb : lenD [.str b] = some (.d (.int (b.length : Nat))) := Dw.len_str (by omega)
    have h1 : ¬ a.length < b.length := fun z => h (.inl z)
    by_cases e : a.length = b.length
    · have ne : neD (.int (a.length : Nat)) (.int (b.length : Nat)) = some (.d (.bl false)) := by
        rw [Dw.ne_int, e, beq_self_eq_true]
        rfl
      have lt : ltG (.str a) (.str b) = some (.d (.bl false)) := by rw [Dw.lt_str', decide_eq_false fun z => h (.inr ⟨e, z⟩)]
      (repeat' fail "V")
      rfl
    · have ne : neD (.int (a.length : Nat)) (.int (b.length : Nat)) = some (.d (.bl true)) := by
        rw [Dw.ne_int]
        have : (((a.length : Nat) : Int) == ((b.length : Nat) : Int)) = false := beq_eq_false_iff_ne.mpr (by omega)
        rw [this]
        rfl
      have lt : ltG (.int (a.length : Nat)) (.int (b.length : Nat)) = some (.d (.bl false)) := by rw [Dw.lt_int', decide_eq_false (by omega)]
      (repeat' fail "V")
      rfl
  obtain ⟨x, o, h1, rfl⟩ := wF_get this
  exact ⟨o, h1⟩
end
section
theorem get_p {ps : List (List Nat)} {i : Nat} (h : i < ps.length) : getD (.lst (sL ps)) (.int (i : Int)) = some (.d (.str (ps.getD i []))) := by
  refine Dw.get_lst (L2.atI_nat ?_)
  rw [sL, List.getElem?_map, List.getElem?_eq_getElem h, List.getD_eq_getElem?_getD, List.getElem?_eq_getElem h]
  rfl
theorem w_tx {ns : List Int} {ps : List (List Nat)} (h : okPs ps) {g : SS} {N : Sl → Prop} {k : Ks}
    (h2 : ∀ x : List Nat, x.length ≤ 70 → (∀ c ∈ x, okC c) → wS g [.d (.lst (dI ns)), .own false (.lst (sL ps)), .d (.str x), .un, .un, .un, .un, .un, .un, .un, .un, .un, .un] N k) :
    wS (seqS (asgS 2 (callD m_ulawutext [] (consA (callD m_ulawucell [] (consA (varE 0) (consA (constE (.int 5)) nilA))) (consA (two (op2 modD) (callE intC (consA (callD m_ulawucell [] (consA (varE 0) (consA (constE (.int 6)) nilA))) nilA)) (constE (.int 13))) nilA))))
    (seqS (iteS (andE (two (op2 gtD) (callE lenD (consA (varE 1) nilA)) (constE (.int 0))) (two (op2 gtD) (two (op2 modD) (callE intC (consA (callD m_ulawucell [] (consA (varE 0) (consA (constE (.int 7)) nilA))) nilA)) (constE (.int 3))) (constE (.int 0)))) (asgS 2 (callD m_ulawunear [] (consA (varE 0) (consA (constE (.int 8)) (consA (two (op2 getD) (varE 1) (two (op2 modD) (callE intC (consA (callD m_ulawucell [] (consA (varE 0) (consA (constE (.int 9)) nilA))) nilA)) (callE lenD (consA (varE 1) nilA)))) nilA))))) skipS) g))
    [.d (.lst (dI ns)), .own false (.lst (sL ps)), .un, .un, .un, .un, .un, .un, .un, .un, .un, .un, .un] N k := by
  have c5 : m_ulawucell [.d (.lst (dI ns)), .d (.int 5)] = some (.ok (.d (.int (cellZ ns 5))) [.d (.lst (dI ns)), .d (.int 5)]) := ev_cell (ns := ns) (k := 5)
  have c6 : m_ulawucell [.d (.lst (dI ns)), .d (.int 6)] = some (.ok (.d (.int (cellZ ns 6))) [.d (.lst (dI ns)), .d (.int 6)]) := ev_cell (ns := ns) (k := 6)
  have c7 : m_ulawucell [.d (.lst (dI ns)), .d (.int 7)] = some (.ok (.d (.int (cellZ ns 7))) [.d (.lst (dI ns)), .d (.int 7)]) := ev_cell (ns := ns) (k := 7)
  have c9 : m_ulawucell [.d (.lst (dI ns)), .d (.int 9)] = some (.ok (.d (.int (cellZ ns 9))) [.d (.lst (dI ns)), .d (.int 9)]) := ev_cell (ns := ns) (k := 9)
  obtain ⟨n6, a1, a2⟩ := modN (c := cellZ ns 6) (n := 13) (by decide)
  have m6 : modD (.int (cellZ ns 6)) (.int 13) = some (.d (.int n6)) := by rw [mod_ok (by decide)]; rw [← a1]; rfl
  obtain ⟨n7, b1, b2⟩ := modN (c := cellZ ns 7) (n := 3) (by decide)
  have m7 : modD (.int (cellZ ns 7)) (.int 3) = some (.d (.int n7)) := by rw [mod_ok (by decide)]; rw [← b1]; rfl
  obtain ⟨x0, x1, x2, o2, e2⟩ := ev_text (c := cellZ ns 5) (n := n6) (by omega)
  have lnp : (sL ps).length = ps.length := by rw [sL, List.length_map]
  have gpos : 0 < (sL ps).length → ∃ (i : Nat) (p : List Nat) (x : List Nat) (o : List SV), p ∈ ps ∧ modD (.int (cellZ ns 9)) (.int ((sL ps).length : Nat)) = some (.d (.int (i : Nat))) ∧ getD (.lst (sL ps)) (.int (i : Nat)) = some (.d (.str p)) ∧ (x.length ≤ 60 ∧ ∀ c ∈ x, okC c) ∧ m_ulawunear [.d (.lst (dI ns)), .d (.int 8), .d (.str p)] = some (.ok (.d (.str x)) o) := fun hp => by
    rw [lnp] at hp ⊢
    obtain ⟨i, i1, i2⟩ := modN (c := cellZ ns 9) (n := ps.length) hp
    have hm : ps.getD i [] ∈ ps := by rw [List.getD_eq_getElem?_getD, List.getElem?_eq_getElem i2]; exact List.getElem_mem i2
    obtain ⟨x, x1, o, e⟩ := ev_near (ns := ns) (h.2 _ hm)
    refine ⟨i, ps.getD i [], x, o, hm, ?_, get_p i2, x1, e⟩
    rw [mod_ok (by omega)]
    rw [← i1]
  refine w_seqP2 (fun e => ∃ x : List Nat, x.length ≤ 70 ∧ (∀ c ∈ x, okC c) ∧ e = [.d (.lst (dI ns)), .own false (.lst (sL ps)), .d (.str x), .un, .un, .un, .un, .un, .un, .un, .un, .un, .un]) ?_ (fun e => by rintro ⟨x, xl, xc, rfl⟩; exact h2 x xl xc)
  generalize sL ps = LP at gpos
  generalize dI ns = LN at *
  clear h2 lnp
  (repeat' fail "V")
  · intro hg
    have hg : 0 < LP.length := by have := of_decide_eq_true hg; omega
    obtain ⟨i, p, x, o, hm, q1, q2, q3, q4⟩ := gpos hg
    (repeat' fail "V")
    · intro _
      (repeat' fail "V")
      exact ⟨x, by omega, q3.2, rfl⟩
    · intro _
      exact ⟨x0, x2, x1.2, rfl⟩
  · intro _
    (repeat' fail "V")
    exact ⟨x0, x2, x1.2, rfl⟩
theorem w_pre {ns : List Int} {LP : List D} {x : List Nat} {K : List (List Bool)} {CX : D} {LD' : Nat → List Bool → List D} {R : QE} {b1 b2 : Sl → Prop} {ex : QX} {N : Sl → Prop} {g : SS} {o1 o2 : List SV} (hK : K.length ≤ 400)
    (ac : m_all_classes [.d (.lst LP)] = some (.ok (.own (.lst (K.map bls))) o1)) (lc : m_ulawuclass [.d (.lst LP), .d (.str x)] = some (.ok (.d CX) o2)) (ni : notInG CX (.lst (K.map bls)) = some (.d (.bl false)))
    (hr : ∀ c : Nat, c ≤ 3 → (∃ o, m_first_rows [.d (.lst LP), .d (.int (c : Nat))] = some (.ok (.own (.lst (K.map fun w => .lst (LD' c w)))) o)) ∧ (∀ w ∈ K, ∃ o, m_first_texts [.d (.lst LP), .d (bls w), .d (.int (c : Nat)), .d (.tup [])] = some (.ok (.own (.lst (LD' c w))) o)) ∧ neD (.lst (K.map fun w => .lst (LD' c w))) (.lst (K.map fun w => .lst (LD' c w))) = some (.d (.bl false)))
    (h2 : ∀ (r : List D) (cd : D) (R6 : SV), r = ((List.range K.length).map fun i => D.int (i : Nat)) → wS (loopD (.nm 8) l_law_4 r) [.d (.lst (dI ns)), .d (.lst LP), .d (.str x), .d (.lst (K.map bls)), .d cd, .d CX, R6, .d .non, .un, .un, .un, .un, .un] (fun e => wS g e N ⟨R, b1, b2, ex⟩) ⟨R, b1, b2, ex⟩) :
    wS (seqS (asgS 3 (callD m_all_classes [] (consA (callE listG (consA (varE 1) nilA)) nilA)))
    (seqS (asgS 4 (two (op2 modD) (callE intC (consA (callD m_ulawucell [] (consA (varE 0) (consA (constE (.int 10)) nilA))) nilA)) (constE (.int 4))))
    (seqS (asgS 5 (callD m_ulawuclass [] (consA (varE 1) (consA (varE 2) nilA))))
    (seqS (iteS (orE (notE (isiE "list" (varE 3))) (two (op2 notInG) (varE 5) (varE 3))) (retS (constE (.bl false))) skipS)
    (seqS (asgS 6 (callD m_first_rows [] (consA (callE listG (consA (varE 1) nilA)) (consA (varE 4) nilA))))
    (seqS (iteS (orE (notE (isiE "list" (varE 6))) (two (op2 neD) (varE 6) (compE [10] (srcE (varE 3)) (.nm 10) none e_law_1))) (retS (constE (.bl false))) skipS)
    (seqS (asgS 7 (constE .non))
    (seqS (forS (argsI rng1 (consA (callE lenD (consA (varE 3) nilA)) nilA)) (.nm 8) l_law_4) g))))))))
    [.d (.lst (dI ns)), .own false (.lst LP), .d (.str x), .un, .un, .un, .un, .un, .un, .un, .un, .un, .un] N ⟨R, b1, b2, ex⟩ := by
  have c10 : m_ulawucell [.d (.lst (dI ns)), .d (.int 10)] = some (.ok (.d (.int (cellZ ns 10))) [.d (.lst (dI ns)), .d (.int 10)]) := ev_cell (ns := ns) (k := 10)
  obtain ⟨c, q1, q2⟩ := modN (c := cellZ ns 10) (n := 4) (by decide)
  have mo : modD (.int (cellZ ns 10)) (.int 4) = some (.d (.int c)) := by rw [mod_ok (by decide)]; rw [← q1]; rfl
  obtain ⟨⟨o3, fr⟩, ft, nr⟩ := hr c (by omega)
  clear hr
  have H := fun R6 => h2 _ (.int (c : Nat)) R6 rfl
  clear h2
  have it : itemsD (.lst (K.map bls)) = some (K.map bls) := rfl
  have ln : lenD [.lst (K.map bls)] = some (.d (.int (K.length : Nat))) := by rw [Dw.len_lst, List.length_map]
  have rg : rng1 [.int (K.length : Nat)] = some ((List.range K.length).map fun i => .int (i : Nat)) := rng1_nat (n := K.length) (by omega)
  have i1 : isiD "list" (.lst (K.map bls)) = true := rfl
  have i2 : isiD "list" (.lst (K.map fun w => .lst (LD' c w))) = true := rfl
  generalize D.int (c : Nat) = cd at *
  generalize dI ns = LN at *
  have cmp := fun (R6 : SV) => w_compM (vs := [10]) (tg := .nm 10) (fe := e_law_1) (d := bls) (g := fun w => .lst (LD' c w)) (l := K) (e0 := [.d (.lst LN), .d (.lst LP), .d (.str x), .d (.lst (K.map bls)), .d cd, .d CX, R6, .un, .un, .un, .un, .un, .un]) (by omega) (fun w hw => by
    refine ⟨[.d (.lst LN), .d (.lst LP), .d (.str x), .d (.lst (K.map bls)), .d cd, .d CX, R6, .un, .un, .un, .d (bls w), .un, .un], put_nm rfl rfl, ?_⟩
    obtain ⟨o, e⟩ := ft w hw
    unfold e_law_1
    generalize bls w = bw at *
    generalize K.map bls = KL at *
    (repeat' fail "V")
    exact ⟨_, rfl, rfl⟩)
  generalize (K.map fun w => D.lst (LD' c w)) = RW at *
  generalize ((List.range K.length).map fun i => D.int (i : Nat)) = r at *
  generalize D.int (K.length : Nat) = dl at *
  generalize K.map bls = KL at *
  clear ft hK q2 q1
  (repeat' fail "V")
  · intro g; rw [i1] at g; cases g
  · intro _
    (repeat' fail "V")
    · intro g; rw [i2] at g; cases g
    · intro _
      (repeat' fail "V")
      refine Dw.w_comp1 (env2 := [.d (.lst LN), .d (.lst LP), .d (.str x), .d (.lst KL), .d cd, .d CX, .own false (.lst RW), .un, .un, .un, .un, .un, .un]) (cmp _) rfl ?_
      (repeat' fail "V")
      exact H _
end
section
theorem get_K {K : List (List Bool)} {i : Nat} (h : i < K.length) : getD (.lst (K.map bls)) (.int (i : Int)) = some (.d (bls (K.getD i []))) := by
  refine Dw.get_lst (L2.atI_nat ?_)
  rw [List.getElem?_map, List.getElem?_eq_getElem h, List.getD_eq_getElem?_getD, List.getElem?_eq_getElem h]
  rfl
theorem mem_K {K : List (List Bool)} {i : Nat} (h : i < K.length) : K.getD i [] ∈ K := by
  rw [List.getD_eq_getElem?_getD, List.getElem?_eq_getElem h]
  exact List.getElem_mem h
theorem pw_K {K : List (List Bool)} {P : List Bool → List Bool → Prop} {i j : Nat} (p : K.Pairwise P) (h : i < j) (hj : j < K.length) : P (K.getD i []) (K.getD j []) := by
  rw [List.getD_eq_getElem?_getD, List.getElem?_eq_getElem (by omega), List.getD_eq_getElem?_getD, List.getElem?_eq_getElem hj]
  exact List.pairwise_iff_getElem.mp p i j (by omega) hj h
theorem cut_K {K : List (List Bool)} {c : Nat} : cutD (.lst (K.map bls)) none (some (c : Int)) = some (.own (.lst ((K.take c).map bls))) := by
  show some (RV.own (.lst (cutL _ _ _))) = _
  congr 3
  unfold cutL
  rw [HT.sIx_none, HT.sIx_nat, List.drop_zero, Nat.sub_zero, List.map_take]
  by_cases hk3 : c ≤ (K.map bls).length
  · rw [Nat.min_eq_left hk3]
  · rw [Nat.min_eq_right (by omega), List.take_length, List.take_of_length_le (by omega)]
theorem nd_take {K : List (List Bool)} {i : Nat} (n : K.Nodup) (h : i < K.length) : K.getD i [] ∉ K.take i := fun hm => by
  obtain ⟨j, hj, e⟩ := List.mem_iff_getElem.mp hm
  rw [List.length_take] at hj
  rw [List.getElem_take, List.getD_eq_getElem?_getD, List.getElem?_eq_getElem h, Option.getD_some] at e
  have := List.pairwise_iff_getElem.mp n j i (by omega) h (by omega)
  exact this e
theorem ne_TT {n : Nat} (hn : n ≤ 10) : neD (.lst (List.replicate n (.bl true))) (.lst (List.replicate n (.bl true))) = some (.d (.bl false)) := by
  have e : ∀ n, List.replicate n (D.bl true) = (List.replicate n true).map .bl := fun n => by rw [List.map_replicate]
  have sh : shp (.lst (List.replicate n (.bl true))) = true := by
    rw [e]
    refine gd_shp (d := 1) (b := n * 1) (gd_lst (n := n) (d := 0) (b := 0) (fun x hx => ?_) (by rw [pys_len, List.length_map, List.length_replicate]; exact Nat.le_refl _)) (by decide)
    obtain ⟨y, hy, rfl⟩ := pys_mem _ _ hx
    obtain ⟨b, _, rfl⟩ := List.mem_map.mp hy
    exact gd_bl b
  have eb : eqB (.lst (List.replicate n (D.bl true))) (.lst (List.replicate n (.bl true))) = true := by
    rw [eqB, e]
    exact eqBs_refl fun b _ => by rw [eqB]; exact beq_self_eq_true _
  unfold neD
  rw [sh, eb]
  simp
theorem w_classes {X R6 : SV} {LP : List D} {K : List (List Bool)} {pz : List (List Nat)} {x : List Nat} {cd : D} {CX : List Bool} {Wt : List Bool → List Nat} {N : Sl → Prop} {b1 b2 : Sl → Prop} {R : QE} {ex : QX} {r : List D}
    (hLP : LP = pz.map .str) (hr : r = (List.range K.length).map fun i => D.int (i : Nat)) (hp : pz.length ≤ 3) (nd : K.Nodup) (hl : ∀ w ∈ K, w.length = pz.length) (hcx : CX.length = pz.length) (hx : x.length ≤ 20000)
    (f1 : ∀ w ∈ K, ∃ o, m_first_text [.d (.lst LP), .d (bls w), .d (.tup [])] = some (.ok (.d (.str (Wt w))) o))
    (ti : ∀ w ∈ K, ∃ o, m_ulawuisutext [.d (.str (Wt w))] = some (.ok (.d (.bl true)) o))
    (tc : ∀ w ∈ K, ∃ o, m_ulawuclass [.d (.lst LP), .d (.str (Wt w))] = some (.ok (.d (bls w)) o))
    (pw : K.Pairwise fun a b => bef (Wt a) (Wt b)) (wl : ∀ w ∈ K, (Wt w).length ≤ 20000) (nb : ∀ w ∈ K, w = CX → ¬ bef x (Wt w))
    (h2 : ∀ L w8 w9, N [X, .d (.lst LP), .d (.str x), .d (.lst (K.map bls)), .d cd, .d (bls CX), R6, .d L, w8, w9, .un, .un, .un]) :
    wS (loopD (.nm 8) l_law_4 r) [X, .d (.lst LP), .d (.str x), .d (.lst (K.map bls)), .d cd, .d (bls CX), R6, .d .non, .un, .un, .un, .un, .un] N ⟨R, b1, b2, ex⟩ := by
  subst hr
  refine w_loopR (n := K.length) (fun j e => ∃ w8 w9, freeSlot (some w8) = true ∧ freeSlot (some w9) = true ∧ e = [X, .d (.lst LP), .d (.str x), .d (.lst (K.map bls)), .d cd, .d (bls CX), R6, .d (if j = 0 then .non else .str (Wt (K.getD (j - 1) []))), w8, w9, .un, .un, .un]) ⟨.un, .un, rfl, rfl, rfl⟩ ?_ ?_
  · rintro i _ hi ⟨w8, w9, f8, f9, rfl⟩
    refine ⟨[X, .d (.lst LP), .d (.str x), .d (.lst (K.map bls)), .d cd, .d (bls CX), R6, .d (if i = 0 then .non else .str (Wt (K.getD (i - 1) []))), .d (.int (i : Nat)), w9, .un, .un, .un], put_nm f8 rfl, ?_⟩
    have gi := get_K hi
    have hm := mem_K hi
    obtain ⟨o1, e1⟩ := f1 _ hm
    obtain ⟨o2, e2⟩ := ti _ hm
    obtain ⟨o3, e3⟩ := tc _ hm
    have ck := cut_K (K := K) (c := i)
    have ni := in_bls (s := K.getD i []) (X := K.take i) (by rw [hl _ hm]; omega) (fun w hw => by rw [hl _ (List.mem_of_mem_take hw)]; omega)
    rw [decide_eq_false (nd_take nd hi)] at ni
    have nw : neD (bls (K.getD i [])) (bls (K.getD i [])) = some (.d (.bl false)) := by
      have := ne_of_eq (eq_bls (a := K.getD i []) (b := K.getD i []) (by rw [hl _ hm]; omega) (by rw [hl _ hm]; omega))
      rw [decide_eq_true rfl] at this
      exact this
    have eqc : eqD (bls (K.getD i [])) (bls CX) = some (.d (.bl (decide (K.getD i [] = CX)))) := eq_bls (by rw [hl _ hm]; omega) (by omega)
    have it1 : itemsD (bls (K.getD i [])) = some ((K.getD i []).map .bl) := rfl
    have it2 : itemsD (.lst LP) = some LP := rfl
    have tt := ne_TT (n := pz.length) (by omega)
    have ty : isiD "tuple" (bls (K.getD i [])) = true := rfl
    have okk : okI (bls (K.getD i [])) = true := rfl
    have cmp1 := fun (L : D) => w_compM (vs := [11]) (tg := .nm 11) (fe := e_law_2) (d := D.bl) (g := fun _ => .bl true) (l := K.getD i []) (e0 := [X, .d (.lst LP), .d (.str x), .d (.lst (K.map bls)), .d cd, .d (bls CX), R6, .d L, .d (.int (i : Nat)), w9, .un, .un, .un]) (by rw [hl _ hm]; omega) (fun b hb => by
      refine ⟨[X, .d (.lst LP), .d (.str x), .d (.lst (K.map bls)), .d cd, .d (bls CX), R6, .d L, .d (.int (i : Nat)), w9, .un, .d (.bl b), .un], put_nm rfl rfl, ?_⟩
      have ib : isiD "bool" (.bl b) = true := rfl
      unfold e_law_2
      generalize K.map bls = KL at *
      (repeat' fail "V")
      exact ⟨_, rfl, rfl⟩)
    have cmp2 := fun (L : D) => w_compM (vs := [12]) (tg := .nm 12) (fe := e_law_3) (d := D.str) (g := fun _ => .bl true) (l := pz) (e0 := [X, .d (.lst LP), .d (.str x), .d (.lst (K.map bls)), .d cd, .d (bls CX), R6, .d L, .d (.int (i : Nat)), w9, .un, .un, .un]) (by omega) (fun b hb => by
      refine ⟨[X, .d (.lst LP), .d (.str x), .d (.lst (K.map bls)), .d cd, .d (bls CX), R6, .d L, .d (.int (i : Nat)), w9, .un, .un, .d (.str b)], put_nm rfl rfl, ?_⟩
      unfold e_law_3
      generalize K.map bls = KL at *
      (repeat' fail "V")
      exact ⟨_, rfl, rfl⟩)
    rw [List.map_const', hl _ hm] at cmp1
    rw [List.map_const', ← hLP] at cmp2
    have fb : K.getD i [] = CX → ∃ o, m_ulawubefore [.d (.str x), .d (.str (Wt (K.getD i [])))] = some (.ok (.d (.bl false)) o) := fun h => ev_nbef (nb _ hm h) hx (wl _ hm)
    have bl : ∀ j, i = j + 1 → ∃ o, m_ulawubefore [.d (.str (Wt (K.getD j []))), .d (.str (Wt (K.getD i [])))] = some (.ok (.d (.bl true)) o) := fun j h => ev_bef (pw_K pw (by omega) hi) (wl _ (mem_K (by omega))) (wl _ hm)
    have last : (if i + 1 = 0 then D.non else .str (Wt (K.getD (i + 1 - 1) []))) = .str (Wt (K.getD i [])) := by rw [if_neg (by omega), Nat.add_sub_cancel]
    rw [last]
    generalize List.replicate pz.length (D.bl true) = TT at *
    unfold l_law_4
    clear f1 ti tc nd pw wl nb h2 last hl
    generalize hIT : (K.getD i []).map D.bl = IT at *
    have hkd : bls (K.getD i []) = .tup IT := by rw [← hIT]
    clear hIT
    cases i with
    | zero =>
      rw [if_pos rfl]
      have nn : isNotD .non .non = some (.d (.bl false)) := rfl
      clear bl
      generalize hdec : decide (K.getD 0 [] = CX) = q at *
      have fb : q = true → _ := fun h => fb (of_decide_eq_true (hdec.trans h))
      clear hdec
      generalize Wt (K.getD 0 []) = wt at *
      generalize bls (K.getD 0 []) = kd at *
      generalize (K.take 0).map bls = KT at *
      generalize ((0 : Nat) : Int) = di at *
      generalize K.map bls = KL at *
      cases q with
      | true =>
        obtain ⟨o4, e4⟩ := fb rfl
        (repeat' fail "V")
        · intro g; rw [ty] at g; cases g
        intro _
        (repeat' fail "V")
        refine Dw.w_comp1 (env2 := [X, .d (.lst LP), .d (.str x), .d (.lst KL), .d cd, .d (bls CX), R6, .d .non, .d (.int di), w9, .un, .un, .un]) (cmp1 _) rfl ?_
        (repeat' fail "V")
        refine Dw.w_comp1 (env2 := [X, .d (.lst LP), .d (.str x), .d (.lst KL), .d cd, .d (bls CX), R6, .d .non, .d (.int di), w9, .un, .un, .un]) (cmp2 _) rfl ?_
        (repeat' fail "V")
        exact ⟨_, _, rfl, rfl, rfl⟩
      | false =>
        (repeat' fail "V")
        · intro g; rw [ty] at g; cases g
        intro _
        (repeat' fail "V")
        refine Dw.w_comp1 (env2 := [X, .d (.lst LP), .d (.str x), .d (.lst KL), .d cd, .d (bls CX), R6, .d .non, .d (.int di), w9, .un, .un, .un]) (cmp1 _) rfl ?_
        (repeat' fail "V")
        refine Dw.w_comp1 (env2 := [X, .d (.lst LP), .d (.str x), .d (.lst KL), .d cd, .d (bls CX), R6, .d .non, .d (.int di), w9, .un, .un, .un]) (cmp2 _) rfl ?_
        (repeat' fail "V")
        exact ⟨_, _, rfl, rfl, rfl⟩
    | succ j =>
      rw [if_neg (Nat.succ_ne_zero j), Nat.add_sub_cancel]
      obtain ⟨o5, e5⟩ := bl j rfl
      clear bl
      generalize hdec : decide (K.getD (j + 1) [] = CX) = q at *
      have fb : q = true → _ := fun h => fb (of_decide_eq_true (hdec.trans h))
      clear hdec
      generalize Wt (K.getD (j + 1) []) = wt at *
      generalize Wt (K.getD j []) = wl at *
      have nn : isNotD (.str wl) .non = some (.d (.bl true)) := rfl
      generalize bls (K.getD (j + 1) []) = kd at *
      generalize (K.take (j + 1)).map bls = KT at *
      generalize ((j + 1 : Nat) : Int) = di at *
      generalize K.map bls = KL at *
      cases q with
      | true =>
        obtain ⟨o4, e4⟩ := fb rfl
        (repeat' fail "V")
        · intro g; rw [ty] at g; cases g
        intro _
        (repeat' fail "V")
        refine Dw.w_comp1 (env2 := [X, .d (.lst LP), .d (.str x), .d (.lst KL), .d cd, .d (bls CX), R6, .d (.str wl), .d (.int di), w9, .un, .un, .un]) (cmp1 _) rfl ?_
        (repeat' fail "V")
        refine Dw.w_comp1 (env2 := [X, .d (.lst LP), .d (.str x), .d (.lst KL), .d cd, .d (bls CX), R6, .d (.str wl), .d (.int di), w9, .un, .un, .un]) (cmp2 _) rfl ?_
        (repeat' fail "V")
        exact ⟨_, _, rfl, rfl, rfl⟩
      | false =>
        (repeat' fail "V")
        · intro g; rw [ty] at g; cases g
        intro _
        (repeat' fail "V")
        refine Dw.w_comp1 (env2 := [X, .d (.lst LP), .d (.str x), .d (.lst KL), .d cd, .d (bls CX), R6, .d (.str wl), .d (.int di), w9, .un, .un, .un]) (cmp1 _) rfl ?_
        (repeat' fail "V")
        refine Dw.w_comp1 (env2 := [X, .d (.lst LP), .d (.str x), .d (.lst KL), .d cd, .d (bls CX), R6, .d (.str wl), .d (.int di), w9, .un, .un, .un]) (cmp2 _) rfl ?_
        (repeat' fail "V")
        exact ⟨_, _, rfl, rfl, rfl⟩
  · rintro _ ⟨w8, w9, f8, f9, rfl⟩
    exact h2 _ _ _
end
section
theorem in_letters {c : Nat} (h : okC c) : c ∈ letters := by
  unfold okC at h
  unfold letters
  simp only [List.mem_cons, List.not_mem_nil, or_false]
  omega
theorem main (ns : List Int) : ∃ o, m_law [.d (.lst (ns.map .int))] = some (.ok (.d (.bl true)) o) := by
  have : wF (m_law [.d (.lst (dI ns))]) (fun u _ => u = .d (.bl true)) nX := by
    refine w_defM rfl (by fail "S") ?_
    unfold b_law
    obtain ⟨ps, hp, hn, op, ep⟩ := ev_pats (ns := ns)
    have h3 := hp.1
    refine w_seqP (fun e => e = [.d (.lst (dI ns)), .own false (.lst (sL ps)), .un, .un, .un, .un, .un, .un, .un, .un, .un, .un, .un]) ?_ ?_
    · generalize sL ps = LP at *
      (repeat' fail "V")
      rfl
    rintro _ rfl
    refine w_tx hp fun x x1 x2 => ?_
    have xl : ∀ c ∈ x, c ∈ letters := fun c hc => in_letters (x2 c hc)
    obtain ⟨T, g, ⟨og, gr⟩, pw, tl, mn⟩ := graph2 hp
    have kl : ∀ w ∈ KS ps (T.map (qs ps)), w.length = ps.length := fun w hw => by
      obtain ⟨t, _, rfl⟩ := KS_inh hw
      exact cB_len
    have k5 : (KS ps (T.map (qs ps))).length ≤ 385 := Nat.le_trans KS_le g.len
    obtain ⟨o1, ac⟩ := ev_ac hp g gr
    obtain ⟨o2, lc⟩ := ev_lc (t := x) hp (by omega)
    have lc : m_ulawuclass [.d (.lst (sL ps)), .d (.str x)] = some (.ok (.d (bls (cB ps (qs ps x)))) o2) := lc
    have W1 : ∀ w ∈ KS ps (T.map (qs ps)), ∃ y, Wit ps w y ∧ ∃ o, m_first_text [.d (.lst (sL ps)), .d (bls w), .d (.tup [])] = some (.ok (.d (.str y)) o) := fun w hw => by
      obtain ⟨L, oL, tc, ⟨l1, l2⟩, fc⟩ := found2 (w := w) g hp (kl w hw) (N := 1 + ([] : List (List Nat)).length) (by decide)
      obtain ⟨t, ht, ct⟩ := KS_inh hw
      obtain ⟨y, rfl, wy⟩ := FC_one fc l1 l2 ⟨t, tl t ht, ct⟩
      obtain ⟨o, e⟩ := ev_f1 (but := []) (B := .tup []) hp g gr (.inl rfl) (by show 1 ≤ 1000; decide) tc
      exact ⟨y, wy, o, e⟩
    obtain ⟨Wt, hWt⟩ : ∃ Wt : List Bool → List Nat, ∀ w ∈ KS ps (T.map (qs ps)), Wit ps w (Wt w) ∧ ∃ o, m_first_text [.d (.lst (sL ps)), .d (bls w), .d (.tup [])] = some (.ok (.d (.str (Wt w))) o) :=
      ⟨fun w => if h : w ∈ KS ps (T.map (qs ps)) then (W1 w h).choose else [], fun w hw => by dsimp only; rw [dif_pos hw]; exact (W1 w hw).choose_spec⟩
    have C1 : ∀ (c : Nat), ∀ w ∈ KS ps (T.map (qs ps)), ∃ L : List (List Nat), c ≤ 3 → (∃ o, m_texts_of_class [.d (.lst ((T.map (qs ps)).map (clD ps))), .d (stG (T.map (qs ps)) ps), .d (.tup (w.map .bl)), .d (.int (c : Nat))] = some (.ok (.own (.lst (L.map .str))) o)) ∧ (∃ o, m_first_texts [.d (.lst (sL ps)), .d (bls w), .d (.int (c : Nat)), .d (.tup [])] = some (.ok (.own (.lst (L.map .str))) o)) ∧ ∀ t ∈ L, ∀ c ∈ t, c < 128 := fun c w hw => by
      by_cases hc : c ≤ 3
      · obtain ⟨L, oL, tc, ⟨l1, l2⟩, fc⟩ := found2 (w := w) g hp (kl w hw) (N := c + ([] : List (List Nat)).length) (by show c + 0 ≤ 50; omega)
        have l1 : L.length ≤ c := l1
        obtain ⟨o, e⟩ := ev_ft (c := c) (but := []) (B := .tup []) hp g gr (.inl rfl) (by omega) tc
        have eL : (L.filter fun t => !decide (t ∈ ([] : List (List Nat)))).take c = L := by
          rw [List.filter_eq_self.mpr fun t _ => by simp, List.take_of_length_le l1]
        rw [eL] at e
        exact ⟨L, fun _ => ⟨⟨oL, tc⟩, ⟨o, e⟩, fun t ht c hc => lt_letters ((l2 t ht).2 c hc)⟩⟩
      · exact ⟨[], fun h => absurd h hc⟩
    obtain ⟨Lc, hLc⟩ : ∃ Lc : Nat → List Bool → List (List Nat), ∀ (c : Nat), ∀ w ∈ KS ps (T.map (qs ps)), c ≤ 3 → (∃ o, m_texts_of_class [.d (.lst ((T.map (qs ps)).map (clD ps))), .d (stG (T.map (qs ps)) ps), .d (.tup (w.map .bl)), .d (.int (c : Nat))] = some (.ok (.own (.lst ((Lc c w).map .str))) o)) ∧ (∃ o, m_first_texts [.d (.lst (sL ps)), .d (bls w), .d (.int (c : Nat)), .d (.tup [])] = some (.ok (.own (.lst ((Lc c w).map .str))) o)) ∧ ∀ t ∈ Lc c w, ∀ c ∈ t, c < 128 :=
      ⟨fun c w => if h : w ∈ KS ps (T.map (qs ps)) then (C1 c w h).choose else [], fun c w hw => by dsimp only; rw [dif_pos hw]; exact (C1 c w hw).choose_spec⟩
    have ni := nin_bls (s := cB ps (qs ps x)) (X := KS ps (T.map (qs ps))) (by rw [cB_len]; omega) (fun w hw => by rw [kl w hw]; omega)
    rw [decide_eq_true (KS_has (GF.all g _ x rfl xl))] at ni
    have hrows : ∀ c : Nat, c ≤ 3 → (∃ o, m_first_rows [.d (.lst (sL ps)), .d (.int (c : Nat))] = some (.ok (.own (.lst ((KS ps (T.map (qs ps))).map fun w => .lst ((Lc c w).map .str)))) o)) ∧ (∀ w ∈ KS ps (T.map (qs ps)), ∃ o, m_first_texts [.d (.lst (sL ps)), .d (bls w), .d (.int (c : Nat)), .d (.tup [])] = some (.ok (.own (.lst ((Lc c w).map .str))) o)) ∧ neD (.lst ((KS ps (T.map (qs ps))).map fun w => .lst ((Lc c w).map .str))) (.lst ((KS ps (T.map (qs ps))).map fun w => .lst ((Lc c w).map .str))) = some (.d (.bl false)) := fun c hc =>
      ⟨ev_fr hp g gr (Lw := Lc c) fun w hw => (hLc c w hw hc).1, fun w hw => (hLc c w hw hc).2.1, ne_rows fun w hw => (hLc c w hw hc).2.2⟩
    have wp := wit_pw pw tl mn fun w hw => (hWt w hw).1
    have nd := KS_nd (ps := ps) (F := T.map (qs ps))
    generalize KS ps (T.map (qs ps)) = K at *
    have tc : ∀ w ∈ K, ∃ o, m_ulawuclass [.d (.lst (sL ps)), .d (.str (Wt w))] = some (.ok (.d (bls w)) o) := fun w hw => by
      obtain ⟨o, e⟩ := ev_lc (t := Wt w) hp (hWt w hw).1.len
      have e : m_ulawuclass [.d (.lst (sL ps)), .d (.str (Wt w))] = some (.ok (.d (bls (cB ps (qs ps (Wt w))))) o) := e
      rw [(hWt w hw).1.cl] at e
      exact ⟨o, e⟩
    refine w_pre (LD' := fun c w => (Lc c w).map .str) (by omega) ac lc ni hrows fun r cd R6 hr => ?_
    refine w_classes (pz := ps) rfl hr h3 nd kl cB_len (by omega) (fun w hw => (hWt w hw).2) (fun w hw => ev_ist (hWt w hw).1.l (hWt w hw).1.len) tc wp (fun w hw => (hWt w hw).1.len) (fun w hw e hb => ?_) fun L w8 w9 => ?_
    · rcases (hWt w hw).1.mn x xl e.symm with q | q
      · rw [← q] at hb
        exact bef_irr hb
      · exact bef_irr (bef_trans hb q)
    · (repeat' fail "V")
      rfl
  obtain ⟨a, o, h1, rfl⟩ := wF_get this
  exact ⟨o, h1⟩
end
end
end P_talkalike_k09_all_classes
namespace P_talkalike_k09_all_classes
noncomputable section
open PySem PySem.Spec PyProof.Rows L2 Dw
variable [GI : Glo] [TI : Tabs]
theorem all_mk {l : PySem.W.OpenLaw} {w : World} {K : PySem.W.Frag} {h : Heap} {mg : Str → Option Value} {fa : Addr} (X : K.In h) (G : h.Ns mainGlobals mg) (hfa : mg "law" = some (.ref fa)) (hX : Tabs.X = none) (hGl : ∀ n C, Glo.C n C ↔ n ∈ ([] : List Str) ∧ mg n = some (.ref C)) (hGs : ∀ n C, Glo.S n C ↔ n ∈ ([] : List Str) ∧ mg n = some (.ref C)) (hW : w = Glo.w)
    {f1 : Addr} {od1 an1 : Option Addr} {sl1 : Array (Option Value)} {oc1 kV1 dc1 pm1 cd1 ct1 : Value} {f2 : Addr} {od2 an2 : Option Addr} {sl2 : Array (Option Value)} {oc2 kV2 dc2 pm2 cd2 ct2 : Value} {f3 : Addr} {od3 an3 : Option Addr} {sl3 : Array (Option Value)} {oc3 kV3 dc3 pm3 cd3 ct3 : Value} {f4 : Addr} {od4 an4 : Option Addr} {sl4 : Array (Option Value)} {oc4 kV4 dc4 pm4 cd4 ct4 : Value} {f5 : Addr} {od5 an5 : Option Addr} {sl5 : Array (Option Value)} {oc5 kV5 dc5 pm5 cd5 ct5 : Value} {f6 : Addr} {od6 an6 : Option Addr} {sl6 : Array (Option Value)} {oc6 kV6 dc6 pm6 cd6 ct6 : Value} {f7 : Addr} {od7 an7 : Option Addr} {sl7 : Array (Option Value)} {oc7 kV7 dc7 pm7 cd7 ct7 : Value} {f8 : Addr} {od8 an8 : Option Addr} {sl8 : Array (Option Value)} {oc8 kV8 dc8 pm8 cd8 ct8 : Value} {f9 : Addr} {od9 an9 : Option Addr} {sl9 : Array (Option Value)} {oc9 kV9 dc9 pm9 cd9 ct9 : Value} {f10 : Addr} {od10 an10 : Option Addr} {sl10 : Array (Option Value)} {oc10 kV10 dc10 pm10 cd10 ct10 : Value} {f11 : Addr} {od11 an11 : Option Addr} {sl11 : Array (Option Value)} {oc11 kV11 dc11 pm11 cd11 ct11 : Value} {f12 : Addr} {od12 an12 : Option Addr} {sl12 : Array (Option Value)} {oc12 kV12 dc12 pm12 cd12 ct12 : Value} {f13 : Addr} {od13 an13 : Option Addr} {sl13 : Array (Option Value)} {oc13 kV13 dc13 pm13 cd13 ct13 : Value} {T13 : Addr} {ocT13 : Value} {odT13 : Option Addr} {slT13 : Array (Option Value)} {nT13 : Nat} {e13_0 : Addr} {ode13_0 : Option Addr} {sle13_0 : Array (Option Value)} {ne13_0 : Nat} {f14 : Addr} {od14 an14 : Option Addr} {sl14 : Array (Option Value)} {oc14 kV14 dc14 pm14 cd14 ct14 : Value} {T14 : Addr} {ocT14 : Value} {odT14 : Option Addr} {slT14 : Array (Option Value)} {nT14 : Nat} {e14_0 : Addr} {ode14_0 : Option Addr} {sle14_0 : Array (Option Value)} {ne14_0 : Nat} {f15 : Addr} {od15 an15 : Option Addr} {sl15 : Array (Option Value)} {oc15 kV15 dc15 pm15 cd15 ct15 : Value} {f16 : Addr} {od16 an16 : Option Addr} {sl16 : Array (Option Value)} {oc16 kV16 dc16 pm16 cd16 ct16 : Value} {f17 : Addr} {od17 an17 : Option Addr} {sl17 : Array (Option Value)} {oc17 kV17 dc17 pm17 cd17 ct17 : Value} {f18 : Addr} {od18 an18 : Option Addr} {sl18 : Array (Option Value)} {oc18 kV18 dc18 pm18 cd18 ct18 : Value} {f19 : Addr} {od19 an19 : Option Addr} {sl19 : Array (Option Value)} {oc19 kV19 dc19 pm19 cd19 ct19 : Value} {f20 : Addr} {od20 an20 : Option Addr} {sl20 : Array (Option Value)} {oc20 kV20 dc20 pm20 cd20 ct20 : Value} {f21 : Addr} {od21 an21 : Option Addr} {sl21 : Array (Option Value)} {oc21 kV21 dc21 pm21 cd21 ct21 : Value} {f22 : Addr} {od22 an22 : Option Addr} {sl22 : Array (Option Value)} {oc22 kV22 dc22 pm22 cd22 ct22 : Value} {f23 : Addr} {od23 an23 : Option Addr} {sl23 : Array (Option Value)} {oc23 kV23 dc23 pm23 cd23 ct23 : Value} {f24 : Addr} {od24 an24 : Option Addr} {sl24 : Array (Option Value)} {oc24 kV24 dc24 pm24 cd24 ct24 : Value} {f25 : Addr} {od25 an25 : Option Addr} {sl25 : Array (Option Value)} {oc25 kV25 dc25 pm25 cd25 ct25 : Value} {f26 : Addr} {od26 an26 : Option Addr} {sl26 : Array (Option Value)} {oc26 kV26 dc26 pm26 cd26 ct26 : Value} {f27 : Addr} {od27 an27 : Option Addr} {sl27 : Array (Option Value)} {oc27 kV27 dc27 pm27 cd27 ct27 : Value} {t_LETTERS : Tok} {t_MOST_STATES : Tok}
    (a1 : PySem.W.nsIn K mainGlobals "without_repeats" = some (some (.ref f1)))
    (l1 : K.lookup f1 = some ⟨oc1, od1, .func (PySem.W.fnOf "without_repeats" "without_repeats" (defArgs s_without_repeats) (defBody s_without_repeats) (defScope s_without_repeats) .none kV1 dc1 pm1 an1 cd1 ct1), sl1⟩)
    (c1 : PySem.W.codeIn K cd1 "without_repeats" = true)
    (k1 : PySem.W.keepIn K (.ref f1) = true)
    (a2 : PySem.W.nsIn K mainGlobals "start_lengths" = some (some (.ref f2)))
    (l2 : K.lookup f2 = some ⟨oc2, od2, .func (PySem.W.fnOf "start_lengths" "start_lengths" (defArgs s_start_lengths) (defBody s_start_lengths) (defScope s_start_lengths) .none kV2 dc2 pm2 an2 cd2 ct2), sl2⟩)
    (c2 : PySem.W.codeIn K cd2 "start_lengths" = true)
    (k2 : PySem.W.keepIn K (.ref f2) = true)
    (a3 : PySem.W.nsIn K mainGlobals "next_lengths" = some (some (.ref f3)))
    (l3 : K.lookup f3 = some ⟨oc3, od3, .func (PySem.W.fnOf "next_lengths" "next_lengths" (defArgs s_next_lengths) (defBody s_next_lengths) (defScope s_next_lengths) .none kV3 dc3 pm3 an3 cd3 ct3), sl3⟩)
    (c3 : PySem.W.codeIn K cd3 "next_lengths" = true)
    (k3 : PySem.W.keepIn K (.ref f3) = true)
    (a4 : PySem.W.nsIn K mainGlobals "start_state" = some (some (.ref f4)))
    (l4 : K.lookup f4 = some ⟨oc4, od4, .func (PySem.W.fnOf "start_state" "start_state" (defArgs s_start_state) (defBody s_start_state) (defScope s_start_state) .none kV4 dc4 pm4 an4 cd4 ct4), sl4⟩)
    (c4 : PySem.W.codeIn K cd4 "start_state" = true)
    (k4 : PySem.W.keepIn K (.ref f4) = true)
    (a5 : PySem.W.nsIn K mainGlobals "next_state" = some (some (.ref f5)))
    (l5 : K.lookup f5 = some ⟨oc5, od5, .func (PySem.W.fnOf "next_state" "next_state" (defArgs s_next_state) (defBody s_next_state) (defScope s_next_state) .none kV5 dc5 pm5 an5 cd5 ct5), sl5⟩)
    (c5 : PySem.W.codeIn K cd5 "next_state" = true)
    (k5 : PySem.W.keepIn K (.ref f5) = true)
    (a6 : PySem.W.nsIn K mainGlobals "accepted" = some (some (.ref f6)))
    (l6 : K.lookup f6 = some ⟨oc6, od6, .func (PySem.W.fnOf "accepted" "accepted" (defArgs s_accepted) (defBody s_accepted) (defScope s_accepted) .none kV6 dc6 pm6 an6 cd6 ct6), sl6⟩)
    (c6 : PySem.W.codeIn K cd6 "accepted" = true)
    (k6 : PySem.W.keepIn K (.ref f6) = true)
    (a7 : PySem.W.nsIn K mainGlobals "states_behind" = some (some (.ref f7)))
    (l7 : K.lookup f7 = some ⟨oc7, od7, .func (PySem.W.fnOf "states_behind" "states_behind" (defArgs s_states_behind) (defBody s_states_behind) (defScope s_states_behind) .none kV7 dc7 pm7 an7 cd7 ct7), sl7⟩)
    (c7 : PySem.W.codeIn K cd7 "states_behind" = true)
    (k7 : PySem.W.keepIn K (.ref f7) = true)
    (a8 : PySem.W.nsIn K mainGlobals "state_graph" = some (some (.ref f8)))
    (l8 : K.lookup f8 = some ⟨oc8, od8, .func (PySem.W.fnOf "state_graph" "state_graph" (defArgs s_state_graph) (defBody s_state_graph) (defScope s_state_graph) .none kV8 dc8 pm8 an8 cd8 ct8), sl8⟩)
    (c8 : PySem.W.codeIn K cd8 "state_graph" = true)
    (k8 : PySem.W.keepIn K (.ref f8) = true)
    (a9 : PySem.W.nsIn K mainGlobals "classes_of_states" = some (some (.ref f9)))
    (l9 : K.lookup f9 = some ⟨oc9, od9, .func (PySem.W.fnOf "classes_of_states" "classes_of_states" (defArgs s_classes_of_states) (defBody s_classes_of_states) (defScope s_classes_of_states) .none kV9 dc9 pm9 an9 cd9 ct9), sl9⟩)
    (c9 : PySem.W.codeIn K cd9 "classes_of_states" = true)
    (k9 : PySem.W.keepIn K (.ref f9) = true)
    (a10 : PySem.W.nsIn K mainGlobals "all_classes" = some (some (.ref f10)))
    (l10 : K.lookup f10 = some ⟨oc10, od10, .func (PySem.W.fnOf "all_classes" "all_classes" (defArgs s_all_classes) (defBody s_all_classes) (defScope s_all_classes) .none kV10 dc10 pm10 an10 cd10 ct10), sl10⟩)
    (c10 : PySem.W.codeIn K cd10 "all_classes" = true)
    (k10 : PySem.W.keepIn K (.ref f10) = true)
    (a11 : PySem.W.nsIn K mainGlobals "texts_of_length" = some (some (.ref f11)))
    (l11 : K.lookup f11 = some ⟨oc11, od11, .func (PySem.W.fnOf "texts_of_length" "texts_of_length" (defArgs s_texts_of_length) (defBody s_texts_of_length) (defScope s_texts_of_length) .none kV11 dc11 pm11 an11 cd11 ct11), sl11⟩)
    (c11 : PySem.W.codeIn K cd11 "texts_of_length" = true)
    (k11 : PySem.W.keepIn K (.ref f11) = true)
    (a12 : PySem.W.nsIn K mainGlobals "texts_of_class" = some (some (.ref f12)))
    (l12 : K.lookup f12 = some ⟨oc12, od12, .func (PySem.W.fnOf "texts_of_class" "texts_of_class" (defArgs s_texts_of_class) (defBody s_texts_of_class) (defScope s_texts_of_class) .none kV12 dc12 pm12 an12 cd12 ct12), sl12⟩)
    (c12 : PySem.W.codeIn K cd12 "texts_of_class" = true)
    (k12 : PySem.W.keepIn K (.ref f12) = true)
    (a13 : PySem.W.nsIn K mainGlobals "first_texts" = some (some (.ref f13)))
    (l13 : K.lookup f13 = some ⟨oc13, od13, .func (PySem.W.fnOf "first_texts" "first_texts" (defArgs s_first_texts) (defBody s_first_texts) (defScope s_first_texts) (.ref T13) kV13 dc13 pm13 an13 cd13 ct13), sl13⟩)
    (t13 : K.lookup T13 = some ⟨ocT13, odT13, .seq (List.toArray [Value.ref e13_0]) nT13, slT13⟩)
    (te13_0 : K.lookup e13_0 = some ⟨.type "tuple", ode13_0, .seq (List.toArray []) ne13_0, sle13_0⟩)
    (c13 : PySem.W.codeIn K cd13 "first_texts" = true)
    (k13 : PySem.W.keepIn K (.ref f13) = true)
    (a14 : PySem.W.nsIn K mainGlobals "first_text" = some (some (.ref f14)))
    (l14 : K.lookup f14 = some ⟨oc14, od14, .func (PySem.W.fnOf "first_text" "first_text" (defArgs s_first_text) (defBody s_first_text) (defScope s_first_text) (.ref T14) kV14 dc14 pm14 an14 cd14 ct14), sl14⟩)
    (t14 : K.lookup T14 = some ⟨ocT14, odT14, .seq (List.toArray [Value.ref e14_0]) nT14, slT14⟩)
    (te14_0 : K.lookup e14_0 = some ⟨.type "tuple", ode14_0, .seq (List.toArray []) ne14_0, sle14_0⟩)
    (c14 : PySem.W.codeIn K cd14 "first_text" = true)
    (k14 : PySem.W.keepIn K (.ref f14) = true)
    (a15 : PySem.W.nsIn K mainGlobals "first_table" = some (some (.ref f15)))
    (l15 : K.lookup f15 = some ⟨oc15, od15, .func (PySem.W.fnOf "first_table" "first_table" (defArgs s_first_table) (defBody s_first_table) (defScope s_first_table) .none kV15 dc15 pm15 an15 cd15 ct15), sl15⟩)
    (c15 : PySem.W.codeIn K cd15 "first_table" = true)
    (k15 : PySem.W.keepIn K (.ref f15) = true)
    (a16 : PySem.W.nsIn K mainGlobals "first_rows" = some (some (.ref f16)))
    (l16 : K.lookup f16 = some ⟨oc16, od16, .func (PySem.W.fnOf "first_rows" "first_rows" (defArgs s_first_rows) (defBody s_first_rows) (defScope s_first_rows) .none kV16 dc16 pm16 an16 cd16 ct16), sl16⟩)
    (c16 : PySem.W.codeIn K cd16 "first_rows" = true)
    (k16 : PySem.W.keepIn K (.ref f16) = true)
    (a17 : PySem.W.nsIn K mainGlobals "_law_cell" = some (some (.ref f17)))
    (l17 : K.lookup f17 = some ⟨oc17, od17, .func (PySem.W.fnOf "_law_cell" "_law_cell" (defArgs s_ulawucell) (defBody s_ulawucell) (defScope s_ulawucell) .none kV17 dc17 pm17 an17 cd17 ct17), sl17⟩)
    (c17 : PySem.W.codeIn K cd17 "_law_cell" = true)
    (k17 : PySem.W.keepIn K (.ref f17) = true)
    (a18 : PySem.W.nsIn K mainGlobals "_law_row" = some (some (.ref f18)))
    (l18 : K.lookup f18 = some ⟨oc18, od18, .func (PySem.W.fnOf "_law_row" "_law_row" (defArgs s_ulawurow) (defBody s_ulawurow) (defScope s_ulawurow) .none kV18 dc18 pm18 an18 cd18 ct18), sl18⟩)
    (c18 : PySem.W.codeIn K cd18 "_law_row" = true)
    (k18 : PySem.W.keepIn K (.ref f18) = true)
    (a19 : PySem.W.nsIn K mainGlobals "_law_text" = some (some (.ref f19)))
    (l19 : K.lookup f19 = some ⟨oc19, od19, .func (PySem.W.fnOf "_law_text" "_law_text" (defArgs s_ulawutext) (defBody s_ulawutext) (defScope s_ulawutext) .none kV19 dc19 pm19 an19 cd19 ct19), sl19⟩)
    (c19 : PySem.W.codeIn K cd19 "_law_text" = true)
    (k19 : PySem.W.keepIn K (.ref f19) = true)
    (a20 : PySem.W.nsIn K mainGlobals "_law_matches" = some (some (.ref f20)))
    (l20 : K.lookup f20 = some ⟨oc20, od20, .func (PySem.W.fnOf "_law_matches" "_law_matches" (defArgs s_ulawumatches) (defBody s_ulawumatches) (defScope s_ulawumatches) .none kV20 dc20 pm20 an20 cd20 ct20), sl20⟩)
    (c20 : PySem.W.codeIn K cd20 "_law_matches" = true)
    (k20 : PySem.W.keepIn K (.ref f20) = true)
    (a21 : PySem.W.nsIn K mainGlobals "_law_small" = some (some (.ref f21)))
    (l21 : K.lookup f21 = some ⟨oc21, od21, .func (PySem.W.fnOf "_law_small" "_law_small" (defArgs s_ulawusmall) (defBody s_ulawusmall) (defScope s_ulawusmall) .none kV21 dc21 pm21 an21 cd21 ct21), sl21⟩)
    (c21 : PySem.W.codeIn K cd21 "_law_small" = true)
    (k21 : PySem.W.keepIn K (.ref f21) = true)
    (a22 : PySem.W.nsIn K mainGlobals "_law_patterns" = some (some (.ref f22)))
    (l22 : K.lookup f22 = some ⟨oc22, od22, .func (PySem.W.fnOf "_law_patterns" "_law_patterns" (defArgs s_ulawupatterns) (defBody s_ulawupatterns) (defScope s_ulawupatterns) .none kV22 dc22 pm22 an22 cd22 ct22), sl22⟩)
    (c22 : PySem.W.codeIn K cd22 "_law_patterns" = true)
    (k22 : PySem.W.keepIn K (.ref f22) = true)
    (a23 : PySem.W.nsIn K mainGlobals "_law_near" = some (some (.ref f23)))
    (l23 : K.lookup f23 = some ⟨oc23, od23, .func (PySem.W.fnOf "_law_near" "_law_near" (defArgs s_ulawunear) (defBody s_ulawunear) (defScope s_ulawunear) .none kV23 dc23 pm23 an23 cd23 ct23), sl23⟩)
    (c23 : PySem.W.codeIn K cd23 "_law_near" = true)
    (k23 : PySem.W.keepIn K (.ref f23) = true)
    (a24 : PySem.W.nsIn K mainGlobals "_law_class" = some (some (.ref f24)))
    (l24 : K.lookup f24 = some ⟨oc24, od24, .func (PySem.W.fnOf "_law_class" "_law_class" (defArgs s_ulawuclass) (defBody s_ulawuclass) (defScope s_ulawuclass) .none kV24 dc24 pm24 an24 cd24 ct24), sl24⟩)
    (c24 : PySem.W.codeIn K cd24 "_law_class" = true)
    (k24 : PySem.W.keepIn K (.ref f24) = true)
    (a25 : PySem.W.nsIn K mainGlobals "_law_before" = some (some (.ref f25)))
    (l25 : K.lookup f25 = some ⟨oc25, od25, .func (PySem.W.fnOf "_law_before" "_law_before" (defArgs s_ulawubefore) (defBody s_ulawubefore) (defScope s_ulawubefore) .none kV25 dc25 pm25 an25 cd25 ct25), sl25⟩)
    (c25 : PySem.W.codeIn K cd25 "_law_before" = true)
    (k25 : PySem.W.keepIn K (.ref f25) = true)
    (a26 : PySem.W.nsIn K mainGlobals "_law_is_text" = some (some (.ref f26)))
    (l26 : K.lookup f26 = some ⟨oc26, od26, .func (PySem.W.fnOf "_law_is_text" "_law_is_text" (defArgs s_ulawuisutext) (defBody s_ulawuisutext) (defScope s_ulawuisutext) .none kV26 dc26 pm26 an26 cd26 ct26), sl26⟩)
    (c26 : PySem.W.codeIn K cd26 "_law_is_text" = true)
    (k26 : PySem.W.keepIn K (.ref f26) = true)
    (a27 : PySem.W.nsIn K mainGlobals "law" = some (some (.ref f27)))
    (l27 : K.lookup f27 = some ⟨oc27, od27, .func (PySem.W.fnOf "law" "law" (defArgs s_law) (defBody s_law) (defScope s_law) .none kV27 dc27 pm27 an27 cd27 ct27), sl27⟩)
    (c27 : PySem.W.codeIn K cd27 "law" = true)
    (k27 : PySem.W.keepIn K (.ref f27) = true)
    (g_LETTERS : PySem.W.nsIn K mainGlobals "LETTERS" = some (some (.str (Str.ofString "abcdefghijklmnopqrstuvwxyz") t_LETTERS)))
    (g_MOST_STATES : PySem.W.nsIn K mainGlobals "MOST_STATES" = some (some (.int 400 t_MOST_STATES)))
    (z_any : PySem.W.nsIn K mainGlobals "any" = some none)
    (z_bool : PySem.W.nsIn K mainGlobals "bool" = some none)
    (z_enumerate : PySem.W.nsIn K mainGlobals "enumerate" = some none)
    (z_int : PySem.W.nsIn K mainGlobals "int" = some none)
    (z_isinstance : PySem.W.nsIn K mainGlobals "isinstance" = some none)
    (z_len : PySem.W.nsIn K mainGlobals "len" = some none)
    (z_list : PySem.W.nsIn K mainGlobals "list" = some none)
    (z_ord : PySem.W.nsIn K mainGlobals "ord" = some none)
    (z_range : PySem.W.nsIn K mainGlobals "range" = some none)
    (z_reversed : PySem.W.nsIn K mainGlobals "reversed" = some none)
    (z_str : PySem.W.nsIn K mainGlobals "str" = some none)
    (z_tuple : PySem.W.nsIn K mainGlobals "tuple" = some none)
    (z_zip : PySem.W.nsIn K mainGlobals "zip" = some none) :
    ∃ fd : FuncData, (∀ (s : Shared) (v : Value), BindsTo s fd ⟨[v], []⟩ [("script", v)]) ∧ ∀ base : Heap, K.In base → base.Ns mainGlobals mg → FnOk l.prog w K mg base CX0 7 fa fd ["script"] (spD K 1 m_law) := by
  have e := hfa.symm.trans (PySem.W.mg_of X G a27)
  cases e
  refine ⟨PySem.W.fnOf "law" "law" (defArgs s_law) (defBody s_law) (defScope s_law) .none kV27 dc27 pm27 an27 cd27 ct27, fun s v => .of_eq rfl, fun base _ _  => ?_⟩
  have y_any := PySem.W.mg_none_of X G z_any
  have y_bool := PySem.W.mg_none_of X G z_bool
  have y_enumerate := PySem.W.mg_none_of X G z_enumerate
  have y_int := PySem.W.mg_none_of X G z_int
  have y_isinstance := PySem.W.mg_none_of X G z_isinstance
  have y_len := PySem.W.mg_none_of X G z_len
  have y_list := PySem.W.mg_none_of X G z_list
  have y_ord := PySem.W.mg_none_of X G z_ord
  have y_range := PySem.W.mg_none_of X G z_range
  have y_reversed := PySem.W.mg_none_of X G z_reversed
  have y_str := PySem.W.mg_none_of X G z_str
  have y_tuple := PySem.W.mg_none_of X G z_tuple
  have y_zip := PySem.W.mg_none_of X G z_zip
  have e_LETTERS : ∃ t, mg "LETTERS" = some (.str (mk [97, 98, 99, 100, 101, 102, 103, 104, 105, 106, 107, 108, 109, 110, 111, 112, 113, 114, 115, 116, 117, 118, 119, 120, 121, 122]) t) := ⟨t_LETTERS, PySem.W.mg_of X G g_LETTERS⟩
  have e_MOST_STATES : ∃ t, mg "MOST_STATES" = some (.int 400 t) := ⟨t_MOST_STATES, PySem.W.mg_of X G g_MOST_STATES⟩
  have F1 := fun_mk (st := s_without_repeats) l1 c1 k1
  have O1 : FnOk l.prog w K mg base CX0 1 f1 _ ["items"] (spD K 1 m_without_repeats) := ok_without_repeats F1 y_list hW
  have b1 := F1.binds (ps := ["items"]) fun _ _ _ _ _ _ us hl => match us, hl with | [_], _ => rfl
  have D1 : Def l.prog w K mg base 1 "without_repeats" 1 m_without_repeats [] := (DefG.mk0 O1 defM_len (PySem.W.mg_of X G a1) F1.kp b1).to
  have F2 := fun_mk (st := s_start_lengths) l2 c2 k2
  have O2 : FnOk l.prog w K mg base CX0 1 f2 _ ["pattern"] (spD K 1 m_start_lengths) := ok_start_lengths F2 y_len y_range y_tuple
  have b2 := F2.binds (ps := ["pattern"]) fun _ _ _ _ _ _ us hl => match us, hl with | [_], _ => rfl
  have D2 : Def l.prog w K mg base 1 "start_lengths" 1 m_start_lengths [] := (DefG.mk0 O2 defM_len (PySem.W.mg_of X G a2) F2.kp b2).to
  have F3 := fun_mk (st := s_next_lengths) l3 c3 k3
  have O3 : FnOk l.prog w K mg base CX0 1 f3 _ ["pattern", "lengths", "letter"] (spD K 3 m_next_lengths) := ok_next_lengths F3 y_enumerate y_tuple
  have b3 := F3.binds (ps := ["pattern", "lengths", "letter"]) fun _ _ _ _ _ _ us hl => match us, hl with | [_, _, _], _ => rfl
  have D3 : Def l.prog w K mg base 1 "next_lengths" 3 m_next_lengths [] := (DefG.mk0 O3 defM_len (PySem.W.mg_of X G a3) F3.kp b3).to
  have F4 := fun_mk (st := s_start_state) l4 c4 k4
  have O4 : FnOk l.prog w K mg base CX0 2 f4 _ ["patterns"] (spD K 1 m_start_state) := ok_start_state F4 y_tuple D2
  have b4 := F4.binds (ps := ["patterns"]) fun _ _ _ _ _ _ us hl => match us, hl with | [_], _ => rfl
  have D4 : Def l.prog w K mg base 2 "start_state" 1 m_start_state [] := (DefG.mk0 O4 defM_len (PySem.W.mg_of X G a4) F4.kp b4).to
  have F5 := fun_mk (st := s_next_state) l5 c5 k5
  have O5 : FnOk l.prog w K mg base CX0 2 f5 _ ["patterns", "state", "letter"] (spD K 3 m_next_state) := ok_next_state F5 y_tuple y_zip D3
  have b5 := F5.binds (ps := ["patterns", "state", "letter"]) fun _ _ _ _ _ _ us hl => match us, hl with | [_, _, _], _ => rfl
  have D5 : Def l.prog w K mg base 2 "next_state" 3 m_next_state [] := (DefG.mk0 O5 defM_len (PySem.W.mg_of X G a5) F5.kp b5).to
  have F6 := fun_mk (st := s_accepted) l6 c6 k6
  have O6 : FnOk l.prog w K mg base CX0 1 f6 _ ["patterns", "state"] (spD K 2 m_accepted) := ok_accepted F6 y_len y_tuple y_zip
  have b6 := F6.binds (ps := ["patterns", "state"]) fun _ _ _ _ _ _ us hl => match us, hl with | [_, _], _ => rfl
  have D6 : Def l.prog w K mg base 1 "accepted" 2 m_accepted [] := (DefG.mk0 O6 defM_len (PySem.W.mg_of X G a6) F6.kp b6).to
  have F7 := fun_mk (st := s_states_behind) l7 c7 k7
  have O7 : FnOk l.prog w K mg base CX0 3 f7 _ ["patterns", "state"] (spD K 2 m_states_behind) := ok_states_behind F7 e_LETTERS D5
  have b7 := F7.binds (ps := ["patterns", "state"]) fun _ _ _ _ _ _ us hl => match us, hl with | [_, _], _ => rfl
  have D7 : Def l.prog w K mg base 3 "states_behind" 2 m_states_behind [] := (DefG.mk0 O7 defM_len (PySem.W.mg_of X G a7) F7.kp b7).to
  have F8 := fun_mk (st := s_state_graph) l8 c8 k8
  have O8 : FnOk l.prog w K mg base CX0 4 f8 _ ["patterns"] (spD K 1 m_state_graph) := ok_state_graph F8 y_len e_MOST_STATES hW D4 D7
  have b8 := F8.binds (ps := ["patterns"]) fun _ _ _ _ _ _ us hl => match us, hl with | [_], _ => rfl
  have D8 : Def l.prog w K mg base 4 "state_graph" 1 m_state_graph [] := (DefG.mk0 O8 defM_len (PySem.W.mg_of X G a8) F8.kp b8).to
  have F9 := fun_mk (st := s_classes_of_states) l9 c9 k9
  have O9 : FnOk l.prog w K mg base CX0 2 f9 _ ["patterns", "states"] (spD K 2 m_classes_of_states) := ok_classes_of_states F9 D6
  have b9 := F9.binds (ps := ["patterns", "states"]) fun _ _ _ _ _ _ us hl => match us, hl with | [_, _], _ => rfl
  have D9 : Def l.prog w K mg base 2 "classes_of_states" 2 m_classes_of_states [] := (DefG.mk0 O9 defM_len (PySem.W.mg_of X G a9) F9.kp b9).to
  have F10 := fun_mk (st := s_all_classes) l10 c10 k10
  have O10 : FnOk l.prog w K mg base CX0 5 f10 _ ["patterns"] (spD K 1 m_all_classes) := ok_all_classes F10 D8 D9 D1
  have b10 := F10.binds (ps := ["patterns"]) fun _ _ _ _ _ _ us hl => match us, hl with | [_], _ => rfl
  have D10 : Def l.prog w K mg base 5 "all_classes" 1 m_all_classes [] := (DefG.mk0 O10 defM_len (PySem.W.mg_of X G a10) F10.kp b10).to
  have F11 := fun_mk (st := s_texts_of_length) l11 c11 k11
  have O11 : FnOk l.prog w K mg base CX0 1 f11 _ ["steps", "ahead", "count"] (spD K 3 m_texts_of_length) := ok_texts_of_length F11 y_reversed y_zip e_LETTERS
  have b11 := F11.binds (ps := ["steps", "ahead", "count"]) fun _ _ _ _ _ _ us hl => match us, hl with | [_, _, _], _ => rfl
  have D11 : Def l.prog w K mg base 1 "texts_of_length" 3 m_texts_of_length [] := (DefG.mk0 O11 defM_len (PySem.W.mg_of X G a11) F11.kp b11).to
  have F12 := fun_mk (st := s_texts_of_class) l12 c12 k12
  have O12 : FnOk l.prog w K mg base CX0 2 f12 _ ["classes", "steps", "wanted", "count"] (spD K 4 m_texts_of_class) := ok_texts_of_class F12 y_any y_len D11
  have b12 := F12.binds (ps := ["classes", "steps", "wanted", "count"]) fun _ _ _ _ _ _ us hl => match us, hl with | [_, _, _, _], _ => rfl
  have D12 : Def l.prog w K mg base 2 "texts_of_class" 4 m_texts_of_class [] := (DefG.mk0 O12 defM_len (PySem.W.mg_of X G a12) F12.kp b12).to
  have F13 := funD_mk (st := s_first_texts) (its := [Value.ref e13_0]) (dvs := [V.ref e13_0]) l13 c13 k13 t13 (.cons rfl (.nil)) (by simp)
  have O13 : FnOk l.prog w K mg base CX0 5 f13 _ ["patterns", "wanted", "count", "but"] (spD K 4 m_first_texts) := ok_first_texts F13 y_len D8 D9 D12
  have D13 : Def l.prog w K mg base 5 "first_texts" 4 m_first_texts [] := (DefG.mkD O13 defM_len (PySem.W.mg_of X G a13) F13.kp (F13.binds1 (ps := ["patterns", "wanted", "count", "but"]) 4 1 (by simp) rfl fun _ _ _ _ _ _ _ us its hl h2 => match us, hl, its, h2 with | [_, _, _, _], _, [_], _ => ⟨_, rfl, rfl⟩) (fun _ => .nil)).to
  have D13_1 : Def l.prog w K mg base 5 "first_texts" 4 m_first_texts [.tup []] := (DefG.mkD O13 defM_len (PySem.W.mg_of X G a13) F13.kp (F13.binds1 (ps := ["patterns", "wanted", "count", "but"]) 3 0 (by simp) rfl fun _ _ _ _ _ _ _ us its hl h2 => match us, hl, its, h2 with | [_, _, _], _, [_], _ => ⟨_, rfl, rfl⟩) (fun _ => .cons (.tup (.inr ⟨_, _, _, te13_0, rfl, rfl, by decide, .nil⟩) .nil) (.nil))).to
  have F14 := funD_mk (st := s_first_text) (its := [Value.ref e14_0]) (dvs := [V.ref e14_0]) l14 c14 k14 t14 (.cons rfl (.nil)) (by simp)
  have O14 : FnOk l.prog w K mg base CX0 6 f14 _ ["patterns", "wanted", "but"] (spD K 3 m_first_text) := ok_first_text F14 D13
  have D14_1 : Def l.prog w K mg base 6 "first_text" 3 m_first_text [.tup []] := (DefG.mkD O14 defM_len (PySem.W.mg_of X G a14) F14.kp (F14.binds1 (ps := ["patterns", "wanted", "but"]) 2 0 (by simp) rfl fun _ _ _ _ _ _ _ us its hl h2 => match us, hl, its, h2 with | [_, _], _, [_], _ => ⟨_, rfl, rfl⟩) (fun _ => .cons (.tup (.inr ⟨_, _, _, te14_0, rfl, rfl, by decide, .nil⟩) .nil) (.nil))).to
  have F15 := fun_mk (st := s_first_table) l15 c15 k15
  have O15 : FnOk l.prog w K mg base CX0 5 f15 _ ["patterns", "count"] (spD K 2 m_first_table) := ok_first_table F15 hW D8 D9 D1 D12
  have b15 := F15.binds (ps := ["patterns", "count"]) fun _ _ _ _ _ _ us hl => match us, hl with | [_, _], _ => rfl
  have D15 : Def l.prog w K mg base 5 "first_table" 2 m_first_table [] := (DefG.mk0 O15 defM_len (PySem.W.mg_of X G a15) F15.kp b15).to
  have F16 := fun_mk (st := s_first_rows) l16 c16 k16
  have O16 : FnOk l.prog w K mg base CX0 6 f16 _ ["patterns", "count"] (spD K 2 m_first_rows) := ok_first_rows F16 y_list hW D15
  have b16 := F16.binds (ps := ["patterns", "count"]) fun _ _ _ _ _ _ us hl => match us, hl with | [_, _], _ => rfl
  have D16 : Def l.prog w K mg base 6 "first_rows" 2 m_first_rows [] := (DefG.mk0 O16 defM_len (PySem.W.mg_of X G a16) F16.kp b16).to
  have F17 := fun_mk (st := s_ulawucell) l17 c17 k17
  have O17 : FnOk l.prog w K mg base CX0 1 f17 _ ["script", "k"] (spD K 2 m_ulawucell) := ok_ulawucell F17 y_len
  have b17 := F17.binds (ps := ["script", "k"]) fun _ _ _ _ _ _ us hl => match us, hl with | [_, _], _ => rfl
  have D17 : Def l.prog w K mg base 1 "_law_cell" 2 m_ulawucell [] := (DefG.mk0 O17 defM_len (PySem.W.mg_of X G a17) F17.kp b17).to
  have F18 := fun_mk (st := s_ulawurow) l18 c18 k18
  have O18 : FnOk l.prog w K mg base CX0 1 f18 _ ["cell", "count", "base"] (spD K 3 m_ulawurow) := ok_ulawurow F18 y_int y_range
  have b18 := F18.binds (ps := ["cell", "count", "base"]) fun _ _ _ _ _ _ us hl => match us, hl with | [_, _, _], _ => rfl
  have D18 : Def l.prog w K mg base 1 "_law_row" 3 m_ulawurow [] := (DefG.mk0 O18 defM_len (PySem.W.mg_of X G a18) F18.kp b18).to
  have F19 := fun_mk (st := s_ulawutext) l19 c19 k19
  have O19 : FnOk l.prog w K mg base CX0 2 f19 _ ["cell", "size"] (spD K 2 m_ulawutext) := ok_ulawutext F19 D18
  have b19 := F19.binds (ps := ["cell", "size"]) fun _ _ _ _ _ _ us hl => match us, hl with | [_, _], _ => rfl
  have D19 : Def l.prog w K mg base 2 "_law_text" 2 m_ulawutext [] := (DefG.mk0 O19 defM_len (PySem.W.mg_of X G a19) F19.kp b19).to
  have F20 := fun_mk (st := s_ulawumatches) l20 c20 k20
  have O20 : FnOk l.prog w K mg base CX0 1 f20 _ ["signs", "text"] (spD K 2 m_ulawumatches) := ok_ulawumatches F20 y_len y_range
  have b20 := F20.binds (ps := ["signs", "text"]) fun _ _ _ _ _ _ us hl => match us, hl with | [_, _], _ => rfl
  have D20 : Def l.prog w K mg base 1 "_law_matches" 2 m_ulawumatches [] := (DefG.mk0 O20 defM_len (PySem.W.mg_of X G a20) F20.kp b20).to
  have F21 := fun_mk (st := s_ulawusmall) l21 c21 k21
  have O21 : FnOk l.prog w K mg base CX0 2 f21 _ ["cell"] (spD K 1 m_ulawusmall) := ok_ulawusmall F21 y_range D18
  have b21 := F21.binds (ps := ["cell"]) fun _ _ _ _ _ _ us hl => match us, hl with | [_], _ => rfl
  have D21 : Def l.prog w K mg base 2 "_law_small" 1 m_ulawusmall [] := (DefG.mk0 O21 defM_len (PySem.W.mg_of X G a21) F21.kp b21).to
  have F22 := fun_mk (st := s_ulawupatterns) l22 c22 k22
  have O22 : FnOk l.prog w K mg base CX0 3 f22 _ ["script", "start", "most"] (spD K 3 m_ulawupatterns) := ok_ulawupatterns F22 y_int y_range D17 D21
  have b22 := F22.binds (ps := ["script", "start", "most"]) fun _ _ _ _ _ _ us hl => match us, hl with | [_, _, _], _ => rfl
  have D22 : Def l.prog w K mg base 3 "_law_patterns" 3 m_ulawupatterns [] := (DefG.mk0 O22 defM_len (PySem.W.mg_of X G a22) F22.kp b22).to
  have F23 := fun_mk (st := s_ulawunear) l23 c23 k23
  have O23 : FnOk l.prog w K mg base CX0 2 f23 _ ["script", "k", "signs"] (spD K 3 m_ulawunear) := ok_ulawunear F23 y_len y_range D17 D18
  have b23 := F23.binds (ps := ["script", "k", "signs"]) fun _ _ _ _ _ _ us hl => match us, hl with | [_, _, _], _ => rfl
  have D23 : Def l.prog w K mg base 2 "_law_near" 3 m_ulawunear [] := (DefG.mk0 O23 defM_len (PySem.W.mg_of X G a23) F23.kp b23).to
  have F24 := fun_mk (st := s_ulawuclass) l24 c24 k24
  have O24 : FnOk l.prog w K mg base CX0 2 f24 _ ["patterns", "text"] (spD K 2 m_ulawuclass) := ok_ulawuclass F24 y_tuple D20
  have b24 := F24.binds (ps := ["patterns", "text"]) fun _ _ _ _ _ _ us hl => match us, hl with | [_, _], _ => rfl
  have D24 : Def l.prog w K mg base 2 "_law_class" 2 m_ulawuclass [] := (DefG.mk0 O24 defM_len (PySem.W.mg_of X G a24) F24.kp b24).to
  have F25 := fun_mk (st := s_ulawubefore) l25 c25 k25
  have O25 : FnOk l.prog w K mg base CX0 1 f25 _ ["first", "second"] (spD K 2 m_ulawubefore) := ok_ulawubefore F25 y_len
  have b25 := F25.binds (ps := ["first", "second"]) fun _ _ _ _ _ _ us hl => match us, hl with | [_, _], _ => rfl
  have D25 : Def l.prog w K mg base 1 "_law_before" 2 m_ulawubefore [] := (DefG.mk0 O25 defM_len (PySem.W.mg_of X G a25) F25.kp b25).to
  have F26 := fun_mk (st := s_ulawuisutext) l26 c26 k26
  have O26 : FnOk l.prog w K mg base CX0 1 f26 _ ["value"] (spD K 1 m_ulawuisutext) := ok_ulawuisutext F26 y_isinstance y_ord y_str
  have b26 := F26.binds (ps := ["value"]) fun _ _ _ _ _ _ us hl => match us, hl with | [_], _ => rfl
  have D26 : Def l.prog w K mg base 1 "_law_is_text" 1 m_ulawuisutext [] := (DefG.mk0 O26 defM_len (PySem.W.mg_of X G a26) F26.kp b26).to
  have F27 := fun_mk (st := s_law) l27 c27 k27
  exact ok_law F27 y_bool y_int y_isinstance y_len y_list y_range y_tuple D22 D17 D19 D23 D10 D24 D16 D13_1 D14_1 D26 D25
end
end P_talkalike_k09_all_classes
open PySem PySem.W PyProof.Rows
set_option maxHeartbeats 0 in
theorem PySem.Challenge.cw_talkalike_k09_all_classes_holds : PySem.Challenge.rw_talkalike_k09_all_classes.Holds := by
  w_on; o_law; k_head; (case hw => w_witness2)
  k_fill
  refine Dw.walk_tabs (ls := []) (l := PySem.Challenge.rw_talkalike_k09_all_classes) (n := 63) (k := 7) (x := "script") (m := P_talkalike_k09_all_classes.m_law) (fun w mg => ⟨fun n C => n ∈ ([] : List PySem.Str) ∧ mg n = some (.ref C), w, fun n C => n ∈ ([] : List PySem.Str) ∧ mg n = some (.ref C)⟩) [] rfl (by decide) rfl ⟨rfl, by decide, by decide⟩ (fun w h Y => PySem.W.kIn_of Y) ?R (fun p => ?T) ?F (fun GI TI ns hl => letI : Dw.Glo := GI; letI : Dw.Tabs := TI; P_talkalike_k09_all_classes.main ns)
  case R => kernel_rfl
  case T => kernel_rfl
  case F =>
    intro w mg fa h KX G hmg ht
    refine' Exists.imp (fun fd b => ⟨b.1, fun base h1 h2 t => b.2 base h1 h2 ⟩) (P_talkalike_k09_all_classes.all_mk (GI := ⟨fun n C => n ∈ ([] : List PySem.Str) ∧ mg n = some (.ref C), w, fun n C => n ∈ ([] : List PySem.Str) ∧ mg n = some (.ref C)⟩) (TI := Dw.tabsOf _ [] []) KX G hmg rfl (fun _ _ => Iff.rfl) (fun _ _ => Iff.rfl) rfl  ?a1 ?l1 ?c1 ?k1 ?a2 ?l2 ?c2 ?k2 ?a3 ?l3 ?c3 ?k3 ?a4 ?l4 ?c4 ?k4 ?a5 ?l5 ?c5 ?k5 ?a6 ?l6 ?c6 ?k6 ?a7 ?l7 ?c7 ?k7 ?a8 ?l8 ?c8 ?k8 ?a9 ?l9 ?c9 ?k9 ?a10 ?l10 ?c10 ?k10 ?a11 ?l11 ?c11 ?k11 ?a12 ?l12 ?c12 ?k12 ?a13 ?l13 ?t13 ?te13_0 ?c13 ?k13 ?a14 ?l14 ?t14 ?te14_0 ?c14 ?k14 ?a15 ?l15 ?c15 ?k15 ?a16 ?l16 ?c16 ?k16 ?a17 ?l17 ?c17 ?k17 ?a18 ?l18 ?c18 ?k18 ?a19 ?l19 ?c19 ?k19 ?a20 ?l20 ?c20 ?k20 ?a21 ?l21 ?c21 ?k21 ?a22 ?l22 ?c22 ?k22 ?a23 ?l23 ?c23 ?k23 ?a24 ?l24 ?c24 ?k24 ?a25 ?l25 ?c25 ?k25 ?a26 ?l26 ?c26 ?k26 ?a27 ?l27 ?c27 ?k27 ?g_LETTERS ?g_MOST_STATES ?z_any ?z_bool ?z_enumerate ?z_int ?z_isinstance ?z_len ?z_list ?z_ord ?z_range ?z_reversed ?z_str ?z_tuple ?z_zip)
    (case a1 => k_is); (case l1 => k_is); (case c1 => k_is); (case k1 => k_is); (case a2 => k_is); (case l2 => k_is); (case c2 => k_is); (case k2 => k_is); (case a3 => k_is); (case l3 => k_is); (case c3 => k_is); (case k3 => k_is); (case a4 => k_is); (case l4 => k_is); (case c4 => k_is); (case k4 => k_is); (case a5 => k_is); (case l5 => k_is); (case c5 => k_is); (case k5 => k_is); (case a6 => k_is); (case l6 => k_is); (case c6 => k_is); (case k6 => k_is); (case a7 => k_is); (case l7 => k_is); (case c7 => k_is); (case k7 => k_is); (case a8 => k_is); (case l8 => k_is); (case c8 => k_is); (case k8 => k_is); (case a9 => k_is); (case l9 => k_is); (case c9 => k_is); (case k9 => k_is); (case a10 => k_is); (case l10 => k_is); (case c10 => k_is); (case k10 => k_is); (case a11 => k_is); (case l11 => k_is); (case c11 => k_is); (case k11 => k_is); (case a12 => k_is); (case l12 => k_is); (case c12 => k_is); (case k12 => k_is); (case a13 => k_is); (case l13 => k_is); (case t13 => k_is); (case te13_0 => k_is); (case c13 => k_is); (case k13 => k_is); (case a14 => k_is); (case l14 => k_is); (case t14 => k_is); (case te14_0 => k_is); (case c14 => k_is); (case k14 => k_is); (case a15 => k_is); (case l15 => k_is); (case c15 => k_is); (case k15 => k_is); (case a16 => k_is); (case l16 => k_is); (case c16 => k_is); (case k16 => k_is); (case a17 => k_is); (case l17 => k_is); (case c17 => k_is); (case k17 => k_is); (case a18 => k_is); (case l18 => k_is); (case c18 => k_is); (case k18 => k_is); (case a19 => k_is); (case l19 => k_is); (case c19 => k_is); (case k19 => k_is); (case a20 => k_is); (case l20 => k_is); (case c20 => k_is); (case k20 => k_is); (case a21 => k_is); (case l21 => k_is); (case c21 => k_is); (case k21 => k_is); (case a22 => k_is); (case l22 => k_is); (case c22 => k_is); (case k22 => k_is); (case a23 => k_is); (case l23 => k_is); (case c23 => k_is); (case k23 => k_is); (case a24 => k_is); (case l24 => k_is); (case c24 => k_is); (case k24 => k_is); (case a25 => k_is); (case l25 => k_is); (case c25 => k_is); (case k25 => k_is); (case a26 => k_is); (case l26 => k_is); (case c26 => k_is); (case k26 => k_is); (case a27 => k_is); (case l27 => k_is); (case c27 => k_is); (case k27 => k_is); (case g_LETTERS => k_is); (case g_MOST_STATES => k_is); (case z_any => k_is); (case z_bool => k_is); (case z_enumerate => k_is); (case z_int => k_is); (case z_isinstance => k_is); (case z_len => k_is); (case z_list => k_is); (case z_ord => k_is); (case z_range => k_is); (case z_reversed => k_is); (case z_str => k_is); (case z_tuple => k_is); (case z_zip => k_is)
