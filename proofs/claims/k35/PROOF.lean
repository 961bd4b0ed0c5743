import PyProof.Rows.All
import Wide.All
import OpenK.AllK
import Wide.FinOn
import HandS.ForMost
import HandS.ForExc
import HandS.Conv
import HandS.IsInst
import HandS.Property
import HandS.Flow
import HandS.WideBits
import HandS.FStr
import HandS.TupAny
import HandS.TupMul
import HandS.Lambda
import HandS.SortInts
import HandS.SortKw
import HandS.Wide
import HandS.RaiseMore
import HandS.Deep
import HandS.Zip
import HandS.ExcOwn
import HandS.WordsExc
import PyProof.Rows.StrIntSpec
import PyProof.FString3
import KE.GoesNew
import KE.GoesEnum
import HandS.ExcField
import HandS.Dict
import KE.KNest
import HandS.Head0
import HandS.Head1
import HandS.Head2
import HandS.HeadEnd
import HandS.HeadHook1
import HandS.HeadHook2
import HandS.HeadHook3
import HandS.HeadHook4
import HandS.HeadWalk
import HandS.Star
import HandS.Strs
import PyProof.StrOps2
import HandS.NoneIn
import PySem.Challenge.RW_askedapart_k35_errors_of_operators
set_option Elab.async false
set_option linter.all false
set_option maxRecDepth 100000
set_option maxHeartbeats 8000000
namespace Den
open PySem PySem.Spec PyProof.Rows L2

/-! ### no star in an argument list: asked of the text alone -/
def isStar : Expr → Bool
  | .Starred _ _ => true
  | _ => false
theorem star_of {e : Expr} {es : List Expr} {env : Env} (h : isStar e = false) : starEach (e :: es) env = (false, eval e env) :: starEach es env := by
  cases e <;> first | rfl | cases h
theorem hpl_of {es : List Expr} {env : Env} {pos : Pos} (h : es.all (fun e => !isStar e) = true) : (backTo pos (starEach es env)).any (·.1) = false := by
  induction es with
  | nil => rfl
  | cons e es ih =>
    rw [List.all_cons, Bool.and_eq_true] at h
    rw [star_of (by simpa using h.1)]
    exact ih h.2
/-! ### what a value is -/
/-- a value: cel n is the n-th object that may still change, all else never changes again -/
inductive D where
  | non | bl (b : Bool) | int (i : Int) | str (x : Str)
  | tup (xs : List D) | lst (xs : List D) | rol (xs : List D) | cel (n : Nat)
  | fn (n : Nat) | cls (n : Nat) | ty (s : String) | ins (c : Nat) (xs : List D) | dct0
  | exn (c : Nat) (xs : List D) | lam (n : Nat)
/-- an object that may change -/
inductive O where
  | lst (xs : List D) | ins (c : Nat) (fs : List (Str × D)) | lent (xs : List D)
/-- while a loop walks it a list is lent: it is read, but does not change -/
def isLent : O → Bool
  | .lent _ => true
  | _ => false
/-- what stands beside all that is known: g apart from it, l the lists that are lent -/
structure Frm where
  g : Addr → Option HO
  l : Addr → Option HO
def Frm.put (G : Frm) (p : Addr) (o : HO) : Frm := { G with g := upd G.g p o }
def Frm.lend (G : Frm) (p : Addr) (o : HO) : Frm := { G with l := upd G.l p o }
/-- an exception: its class, what it keeps (none: no dict of its own) -/
structure Xn where
  c : Nat
  fs : Option (List (Str × D))
inductive R (α : Type) where
  | ok (a : α) (st : List O)
  | ex (x : Xn) (st : List O)
  | no
def R.bind {α β : Type} (r : R α) (f : α → List O → R β) : R β := match r with
  | .ok a st => f a st
  | .ex x st => .ex x st
  | .no => .no

/-- a lambda of the text with parameters, without captured names -/
structure LamD where
  q : Str
  params : Arguments
  body : Expr
  scope : Scope
/-- the function object of a lambda at a, its code object at c' -/
def LamO (d : LamD) (a c' : Addr) : HO := .ext fun h => ∃ pm ctv : Value, h.get? a = some (PySem.W.kla_obj "<lambda>" d.q d.params d.body d.scope [] pm c' ctv)
/-- where defs and classes stand, the attributes of each class in order -/
structure Tab where
  K : PySem.W.Frag
  fad : Nat → Addr
  cad : Nat → Addr
  cfs : Nat → List Str
  /-- the fields of each class of exceptions; the exception that a suite is about: where it is, its dict, its class -/
  xfs : Nat → List Str
  xa : Option (Addr × Addr × Nat)
  /-- where code objects lay down what they made, the names of these -/
  tbs : List (Addr × Str)
  /-- the lambdas of the text -/
  lms : Nat → LamD

mutual
inductive Rep (T : Tab) (m : List Addr) (F : Hp) : D → V → Prop
  | non : Rep T m F .non .non
  | bl (b : Bool) : Rep T m F (.bl b) (.bl b)
  | int (i : Int) : Rep T m F (.int i) (.int i)
  | str (x : Str) : Rep T m F (.str x) (.str x)
  | tup {a : Addr} {vs : List V} {ds : List D} : SqT T.K F a vs → Reps T m F ds vs → Rep T m F (.tup ds) (.ref a)
  | lst {a : Addr} {vs : List V} {ds : List D} : F a = some (.lst vs) → Reps T m F ds vs → Rep T m F (.lst ds) (.ref a)
  | rol {a : Addr} {vs : List V} {ds : List D} : SqL T.K F a vs → Reps T m F ds vs → Rep T m F (.rol ds) (.ref a)
  | cel {n : Nat} {a : Addr} : m[n]? = some a → Rep T m F (.cel n) (.ref a)
  | fn (n : Nat) : Rep T m F (.fn n) (.ref (T.fad n))
  | cls (n : Nat) : Rep T m F (.cls n) (.ref (T.cad n))
  | ty (s : String) : Rep T m F (.ty s) (.ty s)
  | ins {c : Nat} {a dx : Addr} {fs : List (Str × V)} {ds : List D} : F a = some (.ins (T.cad c) dx fs) → fs.map Prod.fst = T.cfs c → Reps T m F ds (fs.map Prod.snd) → Rep T m F (.ins c ds) (.ref a)
  | dct0 {a : Addr} : F a = some (.dK []) → Rep T m F .dct0 (.ref a)
  | exn {c : Nat} {a dx : Addr} {fs : List (Str × V)} {ds : List D} : T.xa = some (a, dx, c) → F dx = some (.xd fs) → fs.map Prod.fst = T.xfs c → Reps T m F ds (fs.map Prod.snd) → Rep T m F (.exn c ds) (.ref a)
  | lam {n : Nat} {a c' : Addr} : F a = some (LamO (T.lms n) a c') → F c' = some (LamX.CodeO c' (T.lms n).q) → Rep T m F (.lam n) (.ref a)
inductive Reps (T : Tab) (m : List Addr) (F : Hp) : List D → List V → Prop
  | nil : Reps T m F [] []
  | cons {d : D} {v : V} {ds : List D} {vs : List V} : Rep T m F d v → Reps T m F ds vs → Reps T m F (d :: ds) (v :: vs)
end

/-- the world grows -/
structure Le (m : List Addr) (F : Hp) (m' : List Addr) (F' : Hp) : Prop where
  m : ∀ (n : Nat) (a : Addr), m[n]? = some a → m'[n]? = some a
  F : Same F F'
theorem Le.refl {m : List Addr} {F : Hp} : Le m F m F := ⟨fun _ _ h => h, Same.refl F⟩
theorem Le.trans {m m1 m2 : List Addr} {F F1 F2 : Hp} (a : Le m F m1 F1) (b : Le m1 F1 m2 F2) : Le m F m2 F2 := ⟨fun n x h => b.m n x (a.m n x h), a.F.trans b.F⟩
theorem Le.push {m : List Addr} {F : Hp} {a : Addr} : Le m F (m ++ [a]) F := ⟨fun n x h => by
  rw [List.getElem?_append_left (List.getElem?_eq_some_iff.mp h).1]; exact h, Same.refl F⟩

theorem sqT_same {K : PySem.W.Frag} {H H' : Hp} {a : Addr} {xs : List V} (e : Same H H') (h : SqT K H a xs) : SqT K H' a xs := by
  rcases h with (h | ⟨o, h⟩) | h
  · exact .inl (.inl (e _ _ h))
  · exact .inl (.inr ⟨o, e _ _ h⟩)
  · exact .inr h

section
variable {T : Tab} {m m' : List Addr} {F F' H H' : Hp} {G : Frm}
mutual
theorem Rep.le (l : Le m F m' F') : ∀ {d : D} {v : V}, Rep T m F d v → Rep T m' F' d v
  | _, _, .non => .non
  | _, _, .bl b => .bl b
  | _, _, .int i => .int i
  | _, _, .str x => .str x
  | _, _, .tup h r => .tup (sqT_same l.F h) (Reps.le l r)
  | _, _, .lst h r => .lst (l.F _ _ h) (Reps.le l r)
  | _, _, .rol h r => .rol (l.F.seq h) (Reps.le l r)
  | _, _, .cel h => .cel (l.m _ _ h)
  | _, _, .fn n => .fn n
  | _, _, .cls n => .cls n
  | _, _, .ty s => .ty s
  | _, _, .ins h e r => .ins (l.F _ _ h) e (Reps.le l r)
  | _, _, .dct0 h => .dct0 (l.F _ _ h)
  | _, _, .exn e h n r => .exn e (l.F _ _ h) n (Reps.le l r)
  | _, _, .lam h1 h2 => .lam (l.F _ _ h1) (l.F _ _ h2)
theorem Reps.le (l : Le m F m' F') : ∀ {ds : List D} {vs : List V}, Reps T m F ds vs → Reps T m' F' ds vs
  | _, _, .nil => .nil
  | _, _, .cons h r => .cons (Rep.le l h) (Reps.le l r)
end
theorem Reps.length : ∀ {ds : List D} {vs : List V}, Reps T m F ds vs → ds.length = vs.length
  | _, _, .nil => rfl
  | _, _, .cons _ r => congrArg (· + 1) r.length
theorem Reps.append : ∀ {ds es : List D} {vs ws : List V}, Reps T m F ds vs → Reps T m F es ws → Reps T m F (ds ++ es) (vs ++ ws)
  | _, _, _, _, .nil, s => s
  | _, _, _, _, .cons h r, s => .cons h (r.append s)
theorem Reps.get : ∀ {ds : List D} {vs : List V} {i : Nat} {d : D}, Reps T m F ds vs → ds[i]? = some d → ∃ v, vs[i]? = some v ∧ Rep T m F d v
  | _, _, _, _, .nil, e => by simp at e
  | _, _, 0, _, .cons h _, e => by simp at e; subst e; exact ⟨_, rfl, h⟩
  | _, _, i + 1, _, .cons _ r, e => by
    obtain ⟨v, h1, h2⟩ := r.get (i := i) (by simpa using e)
    exact ⟨v, by simpa using h1, h2⟩
theorem Reps.getV : ∀ {ds : List D} {vs : List V} {i : Nat} {v : V}, Reps T m F ds vs → vs[i]? = some v → ∃ d, ds[i]? = some d ∧ Rep T m F d v
  | _, _, _, _, .nil, e => by simp at e
  | _, _, 0, _, .cons h _, e => by simp at e; subst e; exact ⟨_, rfl, h⟩
  | _, _, i + 1, _, .cons _ r, e => by
    obtain ⟨v, h1, h2⟩ := r.getV (i := i) (by simpa using e)
    exact ⟨v, by simpa using h1, h2⟩
theorem Reps.take : ∀ {ds : List D} {vs : List V} (n : Nat), Reps T m F ds vs → Reps T m F (ds.take n) (vs.take n)
  | _, _, 0, _ => .nil
  | _, _, _ + 1, .nil => .nil
  | _, _, n + 1, .cons h r => .cons h (r.take n)
theorem Reps.drop : ∀ {ds : List D} {vs : List V} (n : Nat), Reps T m F ds vs → Reps T m F (ds.drop n) (vs.drop n)
  | _, _, 0, r => r
  | _, _, _ + 1, .nil => .nil
  | _, _, n + 1, .cons _ r => r.drop n
theorem Reps.set {d : D} {v : V} (h : Rep T m F d v) : ∀ {ds : List D} {vs : List V} (i : Nat), Reps T m F ds vs → Reps T m F (ds.set i d) (vs.set i v)
  | _, _, _, .nil => .nil
  | _, _, 0, .cons _ t => .cons h t
  | _, _, i + 1, .cons q t => .cons q (Reps.set h i t)
theorem Reps.rev : ∀ {ds : List D} {vs : List V}, Reps T m F ds vs → Reps T m F ds.reverse vs.reverse
  | _, _, .nil => .nil
  | _, _, .cons h r => by
    rw [List.reverse_cons, List.reverse_cons]
    exact r.rev.append (.cons h .nil)

/-! ### the state -/
def RepO (T : Tab) (m : List Addr) (F : Hp) (o : O) (a : Addr) (H : Hp) : Prop := match o with
  | .lst ds => ∃ vs, H a = some (.lst vs) ∧ Reps T m F ds vs ∧ F a = none
  | .ins c fs => ∃ dx vs, H a = some (.ins (T.cad c) dx vs) ∧ fs.map Prod.fst = vs.map Prod.fst ∧ Reps T m F (fs.map Prod.snd) (vs.map Prod.snd) ∧ F a = none
  | .lent ds => ∃ vs, H a = some (.lst vs) ∧ Reps T m F ds vs ∧ F a = none
/-- a list, an instance -/
def Plain (o : HO) : Prop := (∃ vs, o = .lst vs) ∨ ∃ C dx fs, o = .ins C dx fs
structure Sim (T : Tab) (G : Frm) (m : List Addr) (st : List O) (F H : Hp) : Prop where
  frm : Same G.g H
  frl : Same G.l H
  gfr : ∀ (n : Nat) (a : Addr), m[n]? = some a → G.g a = none
  glr : ∀ (n : Nat) (a : Addr) (o : O), m[n]? = some a → st[n]? = some o → isLent o = false → G.l a = none
  gF : ∀ (b : Addr) (o : HO), G.g b = some o → F b = none
  gl : ∀ (b : Addr) (o : HO), G.g b = some o → G.l b = none
  sub : Same F H
  len : st.length = m.length
  cells : ∀ (n : Nat) (o : O) (a : Addr), st[n]? = some o → m[n]? = some a → RepO T m F o a H
  inj : ∀ (i j : Nat) (a : Addr), m[i]? = some a → m[j]? = some a → i = j
  there : ∀ (n : Nat) (a : Addr), m[n]? = some a → ∃ o, H a = some o
  gnt : ∀ (b : Addr) (o : HO), G.g b = some o → Plain o
  lls : ∀ (b : Addr) (o : HO), G.l b = some o → ∃ vs, o = .lst vs
  lnt : ∀ (n : Nat) (a : Addr) (xs : List D), st[n]? = some (.lent xs) → m[n]? = some a → ∃ vs, G.l a = some (.lst vs) ∧ Reps T m F xs vs
  fnt : ∀ (b : Addr) (ps : Array Value), F b ≠ some (.tbl ps)
  tab : LamX.Tabs T.tbs H
theorem RepO.le {o : O} {a : Addr} (l : Le m F m' F') (hF : F' a = none) (hH : ∀ u, H a = some u → H' a = some u) (h : RepO T m F o a H) : RepO T m' F' o a H' := by
  cases o with
  | lst ds => obtain ⟨vs, h1, h2, h3⟩ := h; exact ⟨vs, hH _ h1, h2.le l, hF⟩
  | ins c fs => obtain ⟨dx, vs, h1, h2, h3, h4⟩ := h; exact ⟨dx, vs, hH _ h1, h2, h3.le l, hF⟩
  | lent ds => obtain ⟨vs, h1, h2, h3⟩ := h; exact ⟨vs, hH _ h1, h2.le l, hF⟩
theorem RepO.fr {o : O} {a : Addr} (h : RepO T m F o a H) : F a = none := by
  cases o with
  | lst ds => exact h.choose_spec.2.2
  | ins c fs => obtain ⟨_, _, _, _, _, h4⟩ := h; exact h4
  | lent ds => exact h.choose_spec.2.2
theorem tabs_write {L : List (Addr × Str)} {p : Addr} {o u : HO} (t : LamX.Tabs L H) (hp : H p = some u) (h1 : ∀ ps, u ≠ .tbl ps) (h2 : ∀ c q, u ≠ LamX.CodeO c q) : LamX.Tabs L (upd H p o) := fun x hx => by
  obtain ⟨ps, a1, a2, a3⟩ := t x hx
  have np : x.1 ≠ p := fun z => by rw [z, hp] at a1; exact h1 ps (Option.some.inj a1)
  refine ⟨ps, by rw [upd_ne np]; exact a1, a2, fun pos cv e => ?_⟩
  obtain ⟨c, b1, b2⟩ := a3 pos cv e
  have nc : c ≠ p := fun z => by rw [z, hp] at b2; exact h2 _ _ (Option.some.inj b2)
  exact ⟨c, b1, by rw [upd_ne nc]; exact b2⟩
theorem lst_not_tbl {xs : List V} : ∀ ps, HO.lst xs ≠ .tbl ps := fun ps z => by cases z
theorem lst_not_code {xs : List V} : ∀ c q, HO.lst xs ≠ LamX.CodeO c q := fun c q z => by unfold LamX.CodeO at z; cases z
theorem same_upd {p : Addr} {o : HO} (h : H p = none) : Same H (upd H p o) := fun b x e => by
  rw [upd_ne (ne_of_none e h)]
  exact e
/-- a new object, a world that grows by it -/
theorem Sim.grow {st : List O} (S : Sim T G m st F H) (e : Same H H') (l : Le m F m F') (hs : Same F' H') (hF : ∀ b, F b = none → H b ≠ none → F' b = none) (hnt : ∀ b ps, F' b ≠ some (.tbl ps)) : Sim T G m st F' H' := by
  have there' : ∀ n a, m[n]? = some a → H a ≠ none := fun n a q z => by
    obtain ⟨o, h⟩ := S.there n a q
    rw [h] at z
    cases z
  refine ⟨S.frm.trans e, S.frl.trans e, S.gfr, S.glr, fun b o q => hF b (S.gF b o q) (fun z => by rw [S.frm b o q] at z; cases z), S.gl, hs, S.len, fun n o a e1 e2 => ?_, S.inj, fun n a q => ?_, S.gnt, S.lls, fun n a xs e1 e2 => ?_, hnt, S.tab.ext e⟩
  · have h := S.cells n o a e1 e2
    exact h.le l (hF a h.fr (there' n a e2)) fun u q => e _ _ q
  · obtain ⟨u, h⟩ := S.there n a q
    exact ⟨u, e _ _ h⟩
  · obtain ⟨vs, h1, h2⟩ := S.lnt n a xs e1 e2
    exact ⟨vs, h1, h2.le l⟩
/-- something new is laid that never changes -/
theorem Sim.laid {st : List O} {p : Addr} {o : HO} (S : Sim T G m st F H) (hp : H p = none) (ho : ∀ ps, o ≠ .tbl ps := by intro _ z; cases z) : Sim T G m st (upd F p o) (upd H p o) ∧ Le m F m (upd F p o) := by
  have fp : F p = none := S.sub.free hp
  have l : Le m F m (upd F p o) := ⟨fun _ _ h => h, fun b u e => by rw [upd_ne (ne_of_none e fp)]; exact e⟩
  refine ⟨S.grow (same_upd hp) l (fun b u e => ?_) (fun b e z => ?_) (fun b ps e => ?_), l⟩
  · by_cases hb : b = p
    · subst hb; rw [upd_same] at e ⊢; exact e
    · rw [upd_ne hb] at e ⊢; exact S.sub b u e
  · rw [upd_ne (fun q => z (by rw [q]; exact hp))]
    exact e
  · by_cases hb : b = p
    · subst hb; rw [upd_same] at e; exact ho ps (Option.some.inj e)
    · rw [upd_ne hb] at e; exact S.fnt b ps e
/-- the heap grows, as far as it is known -/
theorem Sim.same {st : List O} (S : Sim T G m st F H) (e : Same H H') : Sim T G m st F H' := S.grow e Le.refl (S.sub.trans e) (fun _ q _ => q) S.fnt
theorem push_get {a p : Addr} {n : Nat} (e : (m ++ [p])[n]? = some a) : m[n]? = some a ∨ (n = m.length ∧ a = p) := by
  by_cases hn : n < m.length
  · rw [List.getElem?_append_left hn] at e; exact .inl e
  · rw [List.getElem?_append_right (by omega)] at e
    have hl := (List.getElem?_eq_some_iff.mp e).1
    have hn2 : n = m.length := by simp at hl; omega
    subst hn2
    simp at e
    exact .inr ⟨rfl, e.symm⟩
/-- an object that stands becomes one that may change -/
theorem Sim.take {st : List O} {p : Addr} {u : O} (S : Sim T G m st F H) (np : ∀ (n : Nat) (a : Addr), m[n]? = some a → a ≠ p) (hp : ∃ o, H p = some o) (gp : G.g p = none) (lp : G.l p = none) (hu : isLent u = false) (h : RepO T (m ++ [p]) F u p H) : Sim T G (m ++ [p]) (st ++ [u]) F H := by
  have old : ∀ n o a, (st ++ [u])[n]? = some o → m[n]? = some a → st[n]? = some o := fun n o a e1 e2 => by
    have hn : n < st.length := by rw [S.len]; exact (List.getElem?_eq_some_iff.mp e2).1
    rw [List.getElem?_append_left hn] at e1
    exact e1
  have new : ∀ o, (st ++ [u])[m.length]? = some o → o = u := fun o e1 => by
    rw [← S.len, List.getElem?_append_right (Nat.le_refl _)] at e1
    simp at e1
    exact e1.symm
  refine ⟨S.frm, S.frl, fun n a e => ?_, fun n a o e e1 e2 => ?_, S.gF, S.gl, S.sub, by simp [S.len], fun n o a e1 e2 => ?_, fun i j a e1 e2 => ?_, fun n a e => ?_, S.gnt, S.lls, fun n a xs e1 e2 => ?_, S.fnt, S.tab⟩
  · rcases push_get e with e | ⟨rfl, rfl⟩
    · exact S.gfr n a e
    · exact gp
  · rcases push_get e with e | ⟨rfl, rfl⟩
    · exact S.glr n a o e (old n o a e1 e) e2
    · exact lp
  · rcases push_get e2 with e2 | ⟨rfl, rfl⟩
    · have h := S.cells n o a (old n o a e1 e2) e2
      exact h.le Le.push h.fr fun w q => q
    · rw [new o e1]
      exact h
  · rcases push_get e1 with e1 | ⟨rfl, rfl⟩ <;> rcases push_get e2 with e2 | ⟨rfl, h2⟩
    · exact S.inj i j a e1 e2
    · exact absurd h2 (np i a e1)
    · exact absurd rfl (np j _ e2)
    · rfl
  · rcases push_get e with e | ⟨rfl, rfl⟩
    · exact S.there n a e
    · exact hp
  · rcases push_get e2 with e2 | ⟨rfl, rfl⟩
    · obtain ⟨vs, h1, h2⟩ := S.lnt n a xs (old n _ a e1 e2) e2
      exact ⟨vs, h1, h2.le Le.push⟩
    · have z := new _ e1
      rw [← z] at hu
      cases hu
/-- a new object that may change -/
theorem Sim.cell {st : List O} {p : Addr} {u : O} {o : HO} (S : Sim T G m st F H) (hp : H p = none) (hu : isLent u = false) (h : RepO T (m ++ [p]) F u p (upd H p o)) : Sim T G (m ++ [p]) (st ++ [u]) F (upd H p o) :=
  (S.same (same_upd (o := o) hp)).take (fun n a e => by
    obtain ⟨u, h⟩ := S.there n a e
    exact ne_of_none h hp) ⟨o, upd_same⟩ (S.frm.free hp) (S.frl.free hp) hu h
/-- an object changes -/
theorem Sim.write {st : List O} {p : Addr} {n : Nat} {u u1 : O} {o : HO} (S : Sim T G m st F H) (hn : m[n]? = some p) (h1 : st[n]? = some u1) (hl1 : isLent u1 = false) (hl : isLent u = false) {u0 : HO} (h0 : H p = some u0) (hu1 : ∀ ps, u0 ≠ .tbl ps) (hu2 : ∀ c q, u0 ≠ LamX.CodeO c q) (h : RepO T m F u p (upd H p o)) : Sim T G m (st.set n u) F (upd H p o) := by
  have fp : F p = none := h.fr
  have gp := S.gfr n p hn
  have lp := S.glr n p u1 hn h1 hl1
  have hlen : n < st.length := by rw [S.len]; exact (List.getElem?_eq_some_iff.mp hn).1
  have at_ : ∀ i w a, (st.set n u)[i]? = some w → m[i]? = some a → (i = n ∧ w = u ∧ a = p) ∨ (st[i]? = some w ∧ a ≠ p) := fun i w a e1 e2 => by
    by_cases hi : i = n
    · subst hi
      rw [List.getElem?_set_self hlen] at e1
      exact .inl ⟨rfl, (Option.some.inj e1).symm, Option.some.inj (e2.symm.trans hn)⟩
    · rw [List.getElem?_set_ne (Ne.symm hi)] at e1
      exact .inr ⟨e1, fun z => hi (S.inj i n a e2 (z ▸ hn))⟩
  refine ⟨fun b w e => by rw [upd_ne (ne_of_none e gp)]; exact S.frm b w e, fun b w e => by rw [upd_ne (ne_of_none e lp)]; exact S.frl b w e, S.gfr, fun i a w e2 e1 hw => ?_, S.gF, S.gl, fun b w e => by rw [upd_ne (ne_of_none e fp)]; exact S.sub b w e, by simp [S.len], fun i w a e1 e2 => ?_, S.inj, fun i a e => ?_, S.gnt, S.lls, fun i a xs e1 e2 => ?_, S.fnt, tabs_write S.tab h0 hu1 hu2⟩
  · rcases at_ i w a e1 e2 with ⟨rfl, rfl, rfl⟩ | ⟨q, _⟩
    · exact lp
    · exact S.glr i a w e2 q hw
  · rcases at_ i w a e1 e2 with ⟨rfl, rfl, rfl⟩ | ⟨q, na⟩
    · exact h
    · have z := S.cells i w a q e2
      exact z.le Le.refl z.fr fun w e => by rw [upd_ne na]; exact e
  · by_cases ha : a = p
    · subst ha; exact ⟨o, upd_same⟩
    · obtain ⟨w, e⟩ := S.there i a e
      exact ⟨w, by rw [upd_ne ha]; exact e⟩
  · rcases at_ i _ a e1 e2 with ⟨rfl, z, rfl⟩ | ⟨q, _⟩
    · rw [← z] at hl
      cases hl
    · exact S.lnt i a xs q e2
/-- a list is lent -/
theorem Sim.lend {st : List O} {n : Nat} {p : Addr} {ds : List D} {vs : List V} (S : Sim T G m st F H) (hn : m[n]? = some p) (h1 : st[n]? = some (.lst ds)) (hp : H p = some (.lst vs)) (r : Reps T m F ds vs) : Sim T (G.lend p (.lst vs)) m (st.set n (.lent ds)) F H := by
  have fp : F p = none := (S.cells n _ p h1 hn).fr
  have gp := S.gfr n p hn
  have lp := S.glr n p _ hn h1 rfl
  have hlen : n < st.length := (List.getElem?_eq_some_iff.mp h1).1
  have at_ : ∀ i w a, (st.set n (.lent ds))[i]? = some w → m[i]? = some a → (i = n ∧ w = .lent ds ∧ a = p) ∨ (st[i]? = some w ∧ a ≠ p) := fun i w a e1 e2 => by
    by_cases hi : i = n
    · subst hi
      rw [List.getElem?_set_self hlen] at e1
      exact .inl ⟨rfl, (Option.some.inj e1).symm, Option.some.inj (e2.symm.trans hn)⟩
    · rw [List.getElem?_set_ne (Ne.symm hi)] at e1
      exact .inr ⟨e1, fun z => hi (S.inj i n a e2 (z ▸ hn))⟩
  refine ⟨S.frm, fun b w e => ?_, S.gfr, fun i a w e2 e1 hw => ?_, S.gF, fun b w e => ?_, S.sub, by simp [S.len], fun i w a e1 e2 => ?_, S.inj, S.there, S.gnt, fun b w e => ?_, fun i a xs e1 e2 => ?_, S.fnt, S.tab⟩
  · have e : upd G.l p (.lst vs) b = some w := e
    by_cases hb : b = p
    · subst hb; rw [upd_same] at e; cases e; exact hp
    · rw [upd_ne hb] at e; exact S.frl b w e
  · rcases at_ i w a e1 e2 with ⟨rfl, rfl, rfl⟩ | ⟨q, na⟩
    · cases hw
    · show upd G.l p (.lst vs) a = none
      rw [upd_ne na]
      exact S.glr i a w e2 q hw
  · show upd G.l p (.lst vs) b = none
    have e : G.g b = some w := e
    rw [upd_ne (ne_of_none e gp)]
    exact S.gl b w e
  · rcases at_ i w a e1 e2 with ⟨rfl, rfl, rfl⟩ | ⟨q, na⟩
    · exact ⟨vs, hp, r, fp⟩
    · exact S.cells i w a q e2
  · have e : upd G.l p (.lst vs) b = some w := e
    by_cases hb : b = p
    · subst hb; rw [upd_same] at e; cases e; exact ⟨_, rfl⟩
    · rw [upd_ne hb] at e; exact S.lls b w e
  · rcases at_ i _ a e1 e2 with ⟨rfl, z, rfl⟩ | ⟨q, na⟩
    · cases z
      exact ⟨vs, upd_same, r⟩
    · obtain ⟨ws, q1, q2⟩ := S.lnt i a xs q e2
      exact ⟨ws, by show upd G.l p (.lst vs) a = _; rw [upd_ne na]; exact q1, q2⟩
/-- it is given back -/
theorem Sim.unlend {st : List O} {n : Nat} {p : Addr} {ds : List D} {vs : List V} (S : Sim T (G.lend p (.lst vs)) m st F H) (hn : m[n]? = some p) (lp : G.l p = none) (fp : F p = none) (r : Reps T m F ds vs) : Sim T G m (st.set n (.lst ds)) F H := by
  have hp : H p = some (.lst vs) := S.frl p _ upd_same
  have hlen : n < st.length := by rw [S.len]; exact (List.getElem?_eq_some_iff.mp hn).1
  have at_ : ∀ i w a, (st.set n (.lst ds))[i]? = some w → m[i]? = some a → (i = n ∧ w = .lst ds ∧ a = p) ∨ (st[i]? = some w ∧ a ≠ p) := fun i w a e1 e2 => by
    by_cases hi : i = n
    · subst hi
      rw [List.getElem?_set_self hlen] at e1
      exact .inl ⟨rfl, (Option.some.inj e1).symm, Option.some.inj (e2.symm.trans hn)⟩
    · rw [List.getElem?_set_ne (Ne.symm hi)] at e1
      exact .inr ⟨e1, fun z => hi (S.inj i n a e2 (z ▸ hn))⟩
  have le : ∀ b w, G.l b = some w → (G.lend p (.lst vs)).l b = some w := fun b w e => by
    show upd G.l p (.lst vs) b = some w
    rw [upd_ne (ne_of_none e lp)]
    exact e
  refine ⟨S.frm, fun b w e => S.frl b w (le b w e), S.gfr, fun i a w e2 e1 hw => ?_, S.gF, fun b w e => ?_, S.sub, by simp [S.len], fun i w a e1 e2 => ?_, S.inj, S.there, S.gnt, fun b w e => S.lls b w (le b w e), fun i a xs e1 e2 => ?_, S.fnt, S.tab⟩
  · rcases at_ i w a e1 e2 with ⟨rfl, rfl, rfl⟩ | ⟨q, na⟩
    · exact lp
    · have z : upd G.l p (.lst vs) a = none := S.glr i a w e2 q hw
      rw [upd_ne na] at z
      exact z
  · have z : upd G.l p (.lst vs) b = none := S.gl b w e
    by_cases hb : b = p
    · subst hb; exact lp
    · rw [upd_ne hb] at z; exact z
  · rcases at_ i w a e1 e2 with ⟨rfl, rfl, rfl⟩ | ⟨q, na⟩
    · exact ⟨vs, hp, r, fp⟩
    · exact S.cells i w a q e2
  · rcases at_ i _ a e1 e2 with ⟨rfl, z, rfl⟩ | ⟨q, na⟩
    · cases z
    · obtain ⟨ws, q1, q2⟩ := S.lnt i a xs q e2
      have q1 : upd G.l p (.lst vs) a = some (.lst ws) := q1
      rw [upd_ne na] at q1
      exact ⟨ws, q1, q2⟩
end
end Den

namespace Den
open PySem PySem.Spec PyProof.Rows L2

/-! ### what is wanted of a result -/
abbrev XW := Value → Option Addr → Hp → Prop
def RepX (T : Tab) (m : List Addr) (F : Hp) (x : Xn) (cls : Value) (da : Option Addr) (H : Hp) : Prop :=
  cls = .ref (T.cad x.c) ∧ match x.fs with
    | none => da = none
    | some fs => ∃ a vs, da = some a ∧ F a = some (.xd vs) ∧ fs.map Prod.fst = vs.map Prod.fst ∧ Reps T m F (fs.map Prod.snd) (vs.map Prod.snd)
def Post {α β : Type} (T : Tab) (Rp : List Addr → Hp → α → β → Prop) (G : Frm) (m : List Addr) (F : Hp) (r : R α) (Q : β → Hp → Prop) (E : XW) : Prop := match r with
  | .ok a st => ∀ m' F' H' b, Le m F m' F' → Sim T G m' st F' H' → Rp m' F' a b → Q b H'
  | .ex x st => ∀ m' F' H' c da, Le m F m' F' → Sim T G m' st F' H' → RepX T m' F' x c da H' → E c da H'
  | .no => False
section
variable {α β γ δ : Type} {T : Tab} {Rp : List Addr → Hp → α → β → Prop} {Rq : List Addr → Hp → γ → δ → Prop} {m m' : List Addr} {F F' : Hp} {G : Frm} {r : R α} {f : α → List O → R γ} {Q Q' : β → Hp → Prop} {Q2 : δ → Hp → Prop} {E E' : XW}
theorem Post.le (h : Post T Rp G m F r Q E) (l : Le m F m' F') : Post T Rp G m' F' r Q E := by
  cases r with
  | ok a st => exact fun m2 F2 H2 b l2 => h m2 F2 H2 b (l.trans l2)
  | ex x st => exact fun m2 F2 H2 c da l2 => h m2 F2 H2 c da (l.trans l2)
  | no => exact h
theorem Post.mono (h : Post T Rp G m F r Q E) (hQ : ∀ b H, Q b H → Q' b H) (hE : ∀ c da H, E c da H → E' c da H) : Post T Rp G m F r Q' E' := by
  cases r with
  | ok a st => exact fun m2 F2 H2 b l S rp => hQ _ _ (h m2 F2 H2 b l S rp)
  | ex x st => exact fun m2 F2 H2 c da l S rp => hE _ _ _ (h m2 F2 H2 c da l S rp)
  | no => exact h
/-- a step, then the rest -/
theorem Post.bind (h : Post T Rq G m F (r.bind f) Q2 E) (k : ∀ a st m' F' H' b, r = .ok a st → Le m F m' F' → Sim T G m' st F' H' → Rp m' F' a b → Post T Rq G m' F' (f a st) Q2 E → Q b H') : Post T Rp G m F r Q E := by
  cases r with
  | ok a st => exact fun m2 F2 H2 b l S rp => k a st m2 F2 H2 b rfl l S rp (Post.le h l)
  | ex x st => exact h
  | no => exact h
end

/-! ### names -/
def EnvR (T : Tab) (m : List Addr) (F : Hp) (env : List (Option D)) (σ : L2.St) : Prop := ∀ (i : Nat) (d : D), env[i]? = some (some d) → ∃ v : V, σ[i]? = some (some v) ∧ Rep T m F d v
theorem EnvR.le {T : Tab} {m m' : List Addr} {F F' : Hp} {env : List (Option D)} {σ : L2.St} (h : EnvR T m F env σ) (l : Le m F m' F') : EnvR T m' F' env σ := fun i d e =>
  let ⟨v, h1, h2⟩ := h i d e
  ⟨v, h1, h2.le l⟩
theorem EnvR.set {T : Tab} {m : List Addr} {F : Hp} {env : List (Option D)} {σ : L2.St} {d : D} {v : V} (i : Nat) (hl : env.length ≤ σ.length) (h : EnvR T m F env σ) (r : Rep T m F d v) : EnvR T m F (env.set i (some d)) (σ.set i (some v)) := fun j e q => by
  by_cases hj : j = i
  · subst hj
    have hlt : j < env.length := by
      have := (List.getElem?_eq_some_iff.mp q).1
      simpa using this
    rw [List.getElem?_set_self hlt] at q
    cases q
    exact ⟨v, List.getElem?_set_self (Nat.lt_of_lt_of_le hlt hl), r⟩
  · rw [List.getElem?_set_ne (Ne.symm hj)] at q ⊢
    exact h j e q

/-! ### the weakest readings -/
abbrev EV := List (Option D)
abbrev DE := EV → List O → R D
abbrev DA := EV → List O → R (List D)
abbrev DT := EV → List O → R Bool
def wE (X : Cx) (e : Expr) : TE := fun σ H Q => ∀ (pins : List (Addr × Obj)) (s : Shared), Inv X pins σ H s → wpAny (model X.prog X.w) X.A (eval e X.env) (EP X pins σ Q) X.xe s
theorem pe_w {X : Cx} {e : Expr} : PE X e (wE X e) := ⟨fun pins s σ H Q I h => h pins s I⟩
def wT (X : Cx) (e : Expr) : TT := fun σ H Q => ∀ (pins : List (Addr × Obj)) (s : Shared), Inv X pins σ H s → wpAny (model X.prog X.w) X.A (isTrue e X.env (eval e X.env)) (TP X pins σ Q) X.xe s
theorem pt_w {X : Cx} {e : Expr} : PT X e (wT X e) := ⟨fun pins s σ H Q I h => h pins s I⟩
def wA (X : Cx) (es : List Expr) : TA := fun σ H Q => ∀ (pos : Pos) (pins : List (Addr × Obj)) (s : Shared), Inv X pins σ H s → wpAny (model X.prog X.w) X.A (spliced (backTo pos (starEach es X.env))) (AP X pins σ Q) X.xe s
theorem pa_w {X : Cx} {es : List Expr} : PA X es (wA X es) := ⟨fun pos pins s σ H Q I h => h pos pins s I⟩
def wS (X : Cx) (st : Stmt) : TS := fun Dn σ H => ∀ (pins : List (Addr × Obj)) (s : Shared), Inv X pins σ H s → wpAny (model X.prog X.w) X.A (exec st X.env) (SP X pins Dn) X.xe s
theorem ps_w {X : Cx} {st : Stmt} : PS X st (wS X st) := ⟨fun pins s σ H Dn I h => h pins s I⟩
def wSs (X : Cx) (sts : List Stmt) : TS := fun Dn σ H => ∀ (pins : List (Addr × Obj)) (s : Shared), Inv X pins σ H s → wpAny (model X.prog X.w) X.A (execs sts X.env) (SP X pins Dn) X.xe s
theorem pss_w {X : Cx} {sts : List Stmt} : PSs X sts (wSs X sts) := ⟨fun pins s σ H Dn I h => h pins s I⟩

/-! ### the judgements -/
def RV (T : Tab) : List Addr → Hp → D → V → Prop := Rep T
def RVs (T : Tab) : List Addr → Hp → List D → List V → Prop := Reps T
def RB : List Addr → Hp → Bool → Bool → Prop := fun _ _ a b => a = b
structure At (T : Tab) (X : Cx) (G : Frm) (m : List Addr) (st : List O) (F : Hp) (env : EV) (σ : L2.St) (H : Hp) : Prop where
  sim : Sim T G m st F H
  evr : EnvR T m F env σ
  len : env.length ≤ σ.length
structure SE (T : Tab) (X : Cx) (W : WX) (e : Expr) (d : DE) : Prop where
  run : ∀ G m F env st σ H Q, At T X G m st F env σ H → Post T (RV T) G m F (d env st) Q (fun c da H' => W c da σ H') → wE X e σ H Q
instance {T : Tab} {X : Cx} {W : WX} {e : Expr} {d : DE} : CoeFun (SE T X W e d) (fun _ => ∀ G m F env st σ H Q, At T X G m st F env σ H → Post T (RV T) G m F (d env st) Q (fun c da H' => W c da σ H') → wE X e σ H Q) := ⟨SE.run⟩
structure ST (T : Tab) (X : Cx) (W : WX) (e : Expr) (d : DT) : Prop where
  run : ∀ G m F env st σ H Q, At T X G m st F env σ H → Post T RB G m F (d env st) Q (fun c da H' => W c da σ H') → wT X e σ H Q
instance {T : Tab} {X : Cx} {W : WX} {e : Expr} {d : DT} : CoeFun (ST T X W e d) (fun _ => ∀ G m F env st σ H Q, At T X G m st F env σ H → Post T RB G m F (d env st) Q (fun c da H' => W c da σ H') → wT X e σ H Q) := ⟨ST.run⟩
structure SA (T : Tab) (X : Cx) (W : WX) (es : List Expr) (d : DA) : Prop where
  run : ∀ G m F env st σ H Q, At T X G m st F env σ H → Post T (RVs T) G m F (d env st) Q (fun c da H' => W c da σ H') → wA X es σ H Q
instance {T : Tab} {X : Cx} {W : WX} {es : List Expr} {d : DA} : CoeFun (SA T X W es d) (fun _ => ∀ G m F env st σ H Q, At T X G m st F env σ H → Post T (RVs T) G m F (d env st) Q (fun c da H' => W c da σ H') → wA X es σ H Q) := ⟨SA.run⟩
section
variable {T : Tab} {X : Cx} {W : WX} {m m' : List Addr} {F F' H H' : Hp} {G : Frm} {st st' : List O} {env : EV} {σ : L2.St}
theorem At.next (a : At T X G m st F env σ H) (l : Le m F m' F') (S : Sim T G m' st' F' H') : At T X G m' st' F' env σ H' := ⟨S, a.evr.le l, a.len⟩
end

/-! ### names and constants -/
def dVar (i : Nat) : DE := fun env st => match env[i]? with
  | some (some d) => .ok d st
  | _ => .no
def dC (d : D) : DE := fun _ st => .ok d st
section
variable {T : Tab} {X : Cx} {W : WX}
theorem se_var {i : Nat} {x : Str} {pos : Pos} (hN : X.N[i]? = some x) (hv : Vis X.env.scope x) (hd : (x == ("__debug__" : Str)) = false := by decide) (hcd : (x == ("__classdict__" : Str)) = false := by decide) : SE T X W (.Name x pos) (dVar i) := by
  refine ⟨?_⟩
  intro G m F env st σ H Q a h pins s I
  refine (pe_var hN hv hd hcd).run pins s σ H Q I ?_
  unfold dVar at h
  split at h
  · rename_i d e
    obtain ⟨v, h1, h2⟩ := a.evr i d e
    exact ⟨v, h1, h m F H v Le.refl a.sim h2⟩
  · exact h.elim
theorem se_of {e : Expr} {d : D} {t : TE} (hp : PE X e t) (h : ∀ G m st F H, Sim T G m st F H → ∀ Q : VK, (∀ v, Rep T m F d v → Q v H) → ∀ σ, t σ H Q) : SE T X W e (dC d) := by
  refine ⟨?_⟩
  intro G m F env st σ H Q a hq pins s I
  exact hp.run pins s σ H Q I (h G m st F H a.sim Q (fun v r => hq m F H v Le.refl a.sim r) σ)
theorem se_int {i : Int} {j pos} : SE T X W (.Constant (.int i) j pos) (dC (.int i)) := se_of pe_int fun _ _ _ _ _ _ _ h _ => h _ (.int i)
theorem se_bl {b : Bool} {j pos} : SE T X W (.Constant (.bool b) j pos) (dC (.bl b)) := se_of pe_bl fun _ _ _ _ _ _ _ h _ => h _ (.bl b)
theorem se_non {j pos} : SE T X W (.Constant .none j pos) (dC .non) := se_of pe_non fun _ _ _ _ _ _ _ h _ => h _ .non
theorem se_str {x : Str} {j pos} : SE T X W (.Constant (.str x) j pos) (dC (.str x)) := se_of pe_str fun _ _ _ _ _ _ _ h _ => h _ (.str x)
theorem se_never {e : Expr} : SE T X W e (fun _ _ => .no) := ⟨fun _ _ _ _ _ _ _ _ _ h => h.elim⟩
/-- a global: a def, a class, a constant -/
theorem se_fn {x : Str} {n : Nat} {pos : Pos} (hg : Gl X x) (hm : X.mg x = some (.ref (T.fad n))) (hd : (x == ("__debug__" : Str)) = false := by decide) : SE T X W (.Name x pos) (dC (.fn n)) := se_of (pe_glob (v := .ref (T.fad n)) hg hm rfl hd) fun _ _ _ _ _ _ _ h _ => h _ (.fn n)
theorem se_cls {x : Str} {n : Nat} {pos : Pos} (hg : Gl X x) (hm : X.mg x = some (.ref (T.cad n))) (hd : (x == ("__debug__" : Str)) = false := by decide) : SE T X W (.Name x pos) (dC (.cls n)) := se_of (pe_glob (v := .ref (T.cad n)) hg hm rfl hd) fun _ _ _ _ _ _ _ h _ => h _ (.cls n)
theorem se_gint {x : Str} {i : Int} {t : Tok} {pos : Pos} (hg : Gl X x) (hm : X.mg x = some (.int i t)) (hd : (x == ("__debug__" : Str)) = false := by decide) : SE T X W (.Name x pos) (dC (.int i)) := se_of (pe_glob (v := .int i) hg hm ⟨t, rfl⟩ hd) fun _ _ _ _ _ _ _ h _ => h _ (.int i)
theorem se_ty {x : Str} {s : String} {pos : Pos} (hg : Gl X x) (hm : X.mg x = none) (hv : bootBuiltins x = some (.type s)) (hn : x ≠ "__name__" := by decide) (hd : (x == ("__debug__" : Str)) = false := by decide) : SE T X W (.Name x pos) (dC (.ty s)) :=
  se_of (pe_bltn (v := .ty s) hg hm hv rfl hn hd) fun _ _ _ _ _ _ _ h _ => h _ (.ty s)

/-! ### argument lists -/
def dNil : DA := fun _ st => .ok [] st
def dCons (d : DE) (ds : DA) : DA := fun env st => (d env st).bind fun x st1 => (ds env st1).bind fun xs st2 => .ok (x :: xs) st2
theorem sa_nil : SA T X W [] dNil := by
  refine ⟨?_⟩
  intro G m F env st σ H Q a h pos pins s I
  exact pa_nil.run pos pins s σ H Q I (h m F H [] Le.refl a.sim .nil)
theorem sa_cons {e : Expr} {es : List Expr} {d : DE} {ds : DA} (he : SE T X W e d) (hes : SA T X W es ds) (hs : starEach (e :: es) X.env = (false, eval e X.env) :: starEach es X.env := by exact star_of rfl) : SA T X W (e :: es) (dCons d ds) := by
  refine ⟨?_⟩
  intro G m F env st σ H Q a h pos pins s I
  refine (pa_cons (pe_w (X := X) (e := e)) (pa_w (X := X) (es := es)) hs).run pos pins s σ H Q I ?_
  refine he _ m F env st σ H _ a (Post.bind h fun x st1 m1 F1 H1 v e1 l1 S1 r1 h1 => ?_)
  refine hes _ m1 F1 env st1 σ H1 _ (a.next l1 S1) (Post.bind h1 fun xs st2 m2 F2 H2 vs e2 l2 S2 r2 h2 => ?_)
  exact h2 m2 F2 H2 (v :: vs) Le.refl S2 (.cons (Rep.le l2 r1) r2)

/-! ### operators by values -/
/-- what an operator gives of two values: no way out by an exception -/
def rD2 (T : Tab) (g : D → D → List O → R D) : R2 := fun x y H Q => ∃ G m F st dx dy, Sim T G m st F H ∧ Rep T m F dx x ∧ Rep T m F dy y ∧ Post T (RV T) G m F (g dx dy st) Q (fun _ _ _ => False)
def OpD (T : Tab) (X : Cx) (f : Value → Value → Sem Value) (g : D → D → List O → R D) : Prop := OpR X f (rD2 T g)
/-- no exception -/
def R.calm {α : Type} (r : R α) : R α := match r with
  | .ok a st => .ok a st
  | _ => .no
theorem Post.calm {α β : Type} {Rp : List Addr → Hp → α → β → Prop} {m : List Addr} {F : Hp} {G : Frm} {r : R α} {Q : β → Hp → Prop} {E E' : XW} (h : Post T Rp G m F r.calm Q E) : Post T Rp G m F r Q E' := by
  cases r with
  | ok a st => exact h
  | ex x st => exact h.elim
  | no => exact h.elim
def dOp (g : D → D → List O → R D) (da db : DE) : DE := fun env st => (da env st).bind fun x st1 => (db env st1).bind fun y st2 => (g x y st2).calm
theorem se_op {op : Operator} {a b : Expr} {pos : Pos} {da db : DE} {g : D → D → List O → R D} (ho : OpD T X (binaryOp op) g) (ha : SE T X W a da) (hb : SE T X W b db) : SE T X W (.BinOp a op b pos) (dOp g da db) := by
  refine ⟨?_⟩
  intro G m F env st σ H Q at0 h pins s I
  refine (pe_op ho (pe_w (X := X) (e := a)) (pe_w (X := X) (e := b))).run pins s σ H Q I ?_
  refine ha _ m F env st σ H _ at0 (Post.bind h fun x st1 m1 F1 H1 v e1 l1 S1 r1 h1 => ?_)
  refine hb _ m1 F1 env st1 σ H1 _ (at0.next l1 S1) (Post.bind h1 fun y st2 m2 F2 H2 u e2 l2 S2 r2 h2 => ?_)
  exact ⟨_, m2, F2, st2, x, y, S2, Rep.le l2 r1, r2, h2.calm⟩
theorem se_cmp {op : CmpOp} {a b : Expr} {pos : Pos} {da db : DE} {g : D → D → List O → R D} (ho : OpD T X (compareOp op) g) (ha : SE T X W a da) (hb : SE T X W b db) (hm : behindInMarks op b = false) : SE T X W (.Compare a [op] [b] pos) (dOp g da db) := by
  refine ⟨?_⟩
  intro G m F env st σ H Q at0 h pins s I
  refine (pe_cmpR ho (pe_w (X := X) (e := a)) (pe_w (X := X) (e := b)) hm).run pins s σ H Q I ?_
  refine ha _ m F env st σ H _ at0 (Post.bind h fun x st1 m1 F1 H1 v e1 l1 S1 r1 h1 => ?_)
  refine hb _ m1 F1 env st1 σ H1 _ (at0.next l1 S1) (Post.bind h1 fun y st2 m2 F2 H2 u e2 l2 S2 r2 h2 => ?_)
  exact ⟨_, m2, F2, st2, x, y, S2, Rep.le l2 r1, r2, h2.calm⟩
/-- a value that is a bool -/
def asB (d : D) (st : List O) : R Bool := match d with
  | .bl b => .ok b st
  | _ => .no
def dTest (d : DE) : DT := fun env st => (d env st).bind asB
theorem st_cmp {op : CmpOp} {a b : Expr} {pos : Pos} {da db : DE} {g : D → D → List O → R D} (ho : OpD T X (compareOp op) g) (ha : SE T X W a da) (hb : SE T X W b db) (hm : behindInMarks op b = false) : ST T X W (.Compare a [op] [b] pos) (dTest (dOp g da db)) := by
  refine ⟨?_⟩
  intro G m F env st σ H Q at0 h pins s I
  refine (pt_cmpR ho (pe_w (X := X) (e := a)) (pe_w (X := X) (e := b)) hm).run pins s σ H Q I ?_
  have h' : Post T (RV T) G m F (dOp g da db env st) (fun x H' => ∃ k, x = .bl k ∧ Q k H') (fun c da H' => W c da σ H') := Post.bind h fun x st1 m1 F1 H1 v e1 l1 S1 r1 h1 => by
    cases x with
    | bl b => cases r1; exact ⟨b, rfl, h1 m1 F1 H1 b Le.refl S1 rfl⟩
    | _ => exact h1.elim
  refine ha _ m F env st σ H _ at0 (Post.bind h' fun x st1 m1 F1 H1 v e1 l1 S1 r1 h1 => ?_)
  refine hb _ m1 F1 env st1 σ H1 _ (at0.next l1 S1) (Post.bind h1 fun y st2 m2 F2 H2 u e2 l2 S2 r2 h2 => ?_)
  exact ⟨_, m2, F2, st2, x, y, S2, Rep.le l2 r1, r2, h2.calm⟩
/-- a op b op' c -/
def dChain (g g' : D → D → List O → R D) (da db dc : DE) : DE := fun env st => (da env st).bind fun x st1 => (db env st1).bind fun y st2 => ((g x y st2).calm.bind asB).bind fun k st3 =>
  if k = true then (dc env st3).bind fun z st4 => (g' y z st4).calm else .ok (.bl false) st3
theorem chain_core {op op' : CmpOp} {a b c : Expr} {da db dc : DE} {g g' : D → D → List O → R D} (ho : OpD T X (compareOp op) g) (ho' : OpD T X (compareOp op') g') (ha : SE T X W a da) (hb : SE T X W b db) (hc : SE T X W c dc)
    {m : List Addr} {F : Hp} {G : Frm} {env : EV} {st : List O} {σ : L2.St} {H : Hp} {Q : VK} (at0 : At T X G m st F env σ H) (h : Post T (RV T) G m F (dChain g g' da db dc env st) Q (fun c da H' => W c da σ H')) :
    tChain (rD2 T g) (rD2 T g') (wE X a) (wE X b) (wE X c) σ H Q := by
  refine ha _ m F env st σ H _ at0 (Post.bind h fun x st1 m1 F1 H1 v e1 l1 S1 r1 h1 => ?_)
  refine hb _ m1 F1 env st1 σ H1 _ (at0.next l1 S1) (Post.bind h1 fun y st2 m2 F2 H2 u e2 l2 S2 r2 h2 => ?_)
  have at2 := (at0.next l1 S1).next l2 S2
  have h2' : Post T (RV T) G m2 F2 (g x y st2).calm (fun z H3 => ∃ k, z = .bl k ∧ if k = true then wE X c σ H3 fun w' H4 => rD2 T g' u w' H4 Q else Q (.bl false) H3) (fun _ _ _ => False) := by
    generalize (g x y st2) = r at h2
    cases r with
    | ok z st3 =>
      intro m3 F3 H3 zv l3 S3 r3
      cases z with
      | bl k =>
        cases r3
        refine ⟨k, rfl, ?_⟩
        have h3 : Post T (RV T) G m2 F2 (if k = true then (dc env st3).bind fun z st4 => (g' y z st4).calm else .ok (.bl false) st3) Q (fun c da H' => W c da σ H') := h2
        cases k with
        | true =>
          rw [if_pos rfl] at h3 ⊢
          refine hc _ m3 F3 env st3 σ H3 _ (at2.next l3 S3) (Post.bind (h3.le l3) fun w st4 m4 F4 H4 wv e4 l4 S4 r4 h4 => ?_)
          exact ⟨_, m4, F4, st4, y, w, S4, Rep.le (l3.trans l4) r2, r4, h4.calm⟩
        | false =>
          rw [if_neg Bool.false_ne_true] at h3 ⊢
          exact h3 m3 F3 H3 _ l3 S3 (.bl false)
      | _ => exact h2.elim
    | ex x st => exact h2.elim
    | no => exact h2.elim
  exact ⟨_, m2, F2, st2, x, y, S2, Rep.le l2 r1, r2, h2'.calm⟩
theorem se_chain {op op' : CmpOp} {a b c : Expr} {pos : Pos} {da db dc : DE} {g g' : D → D → List O → R D} (ho : OpD T X (compareOp op) g) (ho' : OpD T X (compareOp op') g') (ha : SE T X W a da) (hb : SE T X W b db) (hc : SE T X W c dc) (hm : lastMarks [op, op'] [b, c] = false) : SE T X W (.Compare a [op, op'] [b, c] pos) (dChain g g' da db dc) := by
  refine ⟨?_⟩
  intro G m F env st σ H Q at0 h pins s I
  exact (pe_chain ho ho' (pe_w (X := X) (e := a)) (pe_w (X := X) (e := b)) (pe_w (X := X) (e := c)) hm).run pins s σ H Q I (chain_core ho ho' ha hb hc at0 h)
theorem st_chain {op op' : CmpOp} {a b c : Expr} {pos : Pos} {da db dc : DE} {g g' : D → D → List O → R D} (ho : OpD T X (compareOp op) g) (ho' : OpD T X (compareOp op') g') (ha : SE T X W a da) (hb : SE T X W b db) (hc : SE T X W c dc) (hm : lastMarks [op, op'] [b, c] = false) : ST T X W (.Compare a [op, op'] [b, c] pos) (dTest (dChain g g' da db dc)) := by
  refine ⟨?_⟩
  intro G m F env st σ H Q at0 h pins s I
  refine (pt_chain ho ho' (pe_w (X := X) (e := a)) (pe_w (X := X) (e := b)) (pe_w (X := X) (e := c)) hm).run pins s σ H Q I (chain_core ho ho' ha hb hc at0 (Post.bind h fun x st1 m1 F1 H1 v e1 l1 S1 r1 h1 => ?_))
  cases x with
  | bl b => cases r1; exact ⟨b, rfl, h1 m1 F1 H1 b Le.refl S1 rfl⟩
  | _ => exact h1.elim

/-! ### truth, and, or, not, if -/
def truD (d : D) (st : List O) : R Bool := match d with
  | .non => .ok false st
  | .bl b => .ok b st
  | .int i => .ok (i != 0) st
  | .str x => if x.length ≤ sizeLine then .ok (x.length != 0) st else .no
  | .tup xs => .ok (!xs.isEmpty) st
  | .lst xs => .ok (!xs.isEmpty) st
  | .rol xs => .ok (!xs.isEmpty) st
  | .cel n => match st[n]? with
    | some (.lst xs) => .ok (!xs.isEmpty) st
    | some (.lent xs) => .ok (!xs.isEmpty) st
    | _ => .no
  | .dct0 => .ok false st
  | _ => .no
theorem Reps.isEmpty {m : List Addr} {F : Hp} {ds : List D} {vs : List V} (r : Reps T m F ds vs) : ds.isEmpty = vs.isEmpty := by
  cases r <;> rfl
theorem truV_of {m : List Addr} {F H : Hp} {G : Frm} {st st' : List O} {d : D} {v : V} {b : Bool} {K : PySem.W.Frag} (hK : K = T.K) (S : Sim T G m st F H) (r : Rep T m F d v) (e : truD d st = .ok b st') : TruV K v H b ∧ st' = st := by
  subst hK
  cases r with
  | non => cases e; exact ⟨rfl, rfl⟩
  | bl b => cases e; exact ⟨rfl, rfl⟩
  | int i => cases e; exact ⟨rfl, rfl⟩
  | str x =>
    unfold truD at e
    simp only at e
    split at e
    · cases e
      rename_i hl
      refine ⟨⟨hl, ?_⟩, rfl⟩
      cases hx : x.length with
      | zero => rfl
      | succ k => rfl
    · cases e
  | tup h r =>
    cases e
    exact ⟨.inr (.inl ⟨_, sqT_same S.sub h, by rw [r.isEmpty]⟩), rfl⟩
  | lst h r =>
    cases e
    exact ⟨.inl ⟨_, SqL.of (S.sub _ _ h), by rw [r.isEmpty]⟩, rfl⟩
  | rol h r =>
    cases e
    exact ⟨.inl ⟨_, S.sub.seq h, by rw [r.isEmpty]⟩, rfl⟩
  | cel h =>
    rename_i n a
    cases hq : st[n]? with
    | none => simp only [truD, hq] at e; cases e
    | some o =>
      cases o with
      | lst xs =>
        simp only [truD, hq] at e
        cases e
        obtain ⟨vs, h1, h2, h3⟩ := S.cells _ _ _ hq h
        exact ⟨.inl ⟨vs, SqL.of h1, by rw [h2.isEmpty]⟩, rfl⟩
      | ins c fs => simp only [truD, hq] at e; cases e
      | lent xs =>
        simp only [truD, hq] at e
        cases e
        obtain ⟨vs, h1, h2, h3⟩ := S.cells _ _ _ hq h
        exact ⟨.inl ⟨vs, SqL.of h1, by rw [h2.isEmpty]⟩, rfl⟩
  | fn n => cases e
  | cls n => cases e
  | ty n => cases e
  | ins h1 h2 h3 => cases e
  | exn h1 h2 h3 h4 => cases e
  | lam h1 h2 => cases e
  | dct0 h =>
    cases e
    exact ⟨.inr (.inr ⟨[], S.sub _ _ h, rfl⟩), rfl⟩
def dTru (d : DE) : DT := fun env st => (d env st).bind truD
theorem st_tru {e : Expr} {d : DE} (hK : X.K = T.K) (he : SE T X W e d) (hi : ∀ whole, isTrue e X.env whole = (do let v ← whole; standAt e.pos; holding [v] (truthy v)) := by intro _; rfl) : ST T X W e (dTru d) := by
  refine ⟨?_⟩
  intro G m F env st σ H Q at0 h pins s I
  refine (pt_truth (pe_w (X := X) (e := e)) hi).run pins s σ H Q I ?_
  refine he _ m F env st σ H _ at0 (Post.bind h fun x st1 m1 F1 H1 v e1 l1 S1 r1 h1 => ?_)
  cases q : truD x st1 with
  | ok b st2 =>
    obtain ⟨tv, e2⟩ := truV_of hK S1 r1 q
    subst e2
    rw [q] at h1
    exact ⟨b, tv, h1 m1 F1 H1 b Le.refl S1 rfl⟩
  | ex xx st2 =>
    exfalso
    cases x <;> dsimp only [truD] at q <;> first | (split at q <;> cases q) | cases q
  | no => rw [q] at h1; exact h1.elim
def dAndT (a b : DT) : DT := fun env st => (a env st).bind fun k st1 => if k = true then b env st1 else .ok false st1
def dOrT (a b : DT) : DT := fun env st => (a env st).bind fun k st1 => if k = true then .ok true st1 else b env st1
def dNotT (a : DT) : DT := fun env st => (a env st).bind fun k st1 => .ok (!k) st1
theorem st_not {a : Expr} {d : DT} {pos : Pos} (ha : ST T X W a d) : ST T X W (.UnaryOp .Not a pos) (dNotT d) := by
  refine ⟨?_⟩
  intro G m F env st σ H Q at0 h pins s I
  refine (pt_not (pt_w (X := X) (e := a))).run pins s σ H Q I ?_
  refine ha _ m F env st σ H _ at0 (Post.bind h fun x st1 m1 F1 H1 v e1 l1 S1 r1 h1 => ?_)
  cases r1
  exact h1 m1 F1 H1 _ Le.refl S1 rfl
/-- tests under 'and', 'or' -/
structure SW (T : Tab) (X : Cx) (W : WX) (e : Expr) (d : DT) : Prop where
  run : ∀ G m F env st σ H Q, At T X G m st F env σ H → Post T RB G m F (d env st) Q (fun c da H' => W c da σ H') → ∀ (whole : Sem Value) (pins : List (Addr × Obj)) (s : Shared), Inv X pins σ H s → wpAny (model X.prog X.w) X.A (isTrue e X.env whole) (TP X pins σ Q) X.xe s
instance {T : Tab} {X : Cx} {W : WX} {e : Expr} {d : DT} : CoeFun (SW T X W e d) (fun _ => ∀ G m F env st σ H Q, At T X G m st F env σ H → Post T RB G m F (d env st) Q (fun c da H' => W c da σ H') → ∀ (whole : Sem Value) (pins : List (Addr × Obj)) (s : Shared), Inv X pins σ H s → wpAny (model X.prog X.w) X.A (isTrue e X.env whole) (TP X pins σ Q) X.xe s) := ⟨SW.run⟩
def wW (X : Cx) (e : Expr) : TT := fun σ H Q => ∀ (whole : Sem Value) (pins : List (Addr × Obj)) (s : Shared), Inv X pins σ H s → wpAny (model X.prog X.w) X.A (isTrue e X.env whole) (TP X pins σ Q) X.xe s
theorem pw_w {X : Cx} {e : Expr} : PW X e (wW X e) := ⟨fun wh pins s σ H Q I h => h wh pins s I⟩
theorem SW.st {e : Expr} {d : DT} (h : SW T X W e d) : ST T X W e d := ⟨fun G m F env st σ H Q a q pins s I => h _ m F env st σ H Q a q _ pins s I⟩
theorem sw_and1 {a : Expr} {d : DT} {pos : Pos} (ha : ST T X W a d) : SW T X W (.BoolOp .And [a] pos) d := ⟨fun G m F env st σ H Q a0 h wh pins s I => (pw_and1 (pt_w (X := X) (e := a))).run wh pins s σ H Q I (ha _ m F env st σ H Q a0 h)⟩
theorem sw_or1 {a : Expr} {d : DT} {pos : Pos} (ha : ST T X W a d) : SW T X W (.BoolOp .Or [a] pos) d := ⟨fun G m F env st σ H Q a0 h wh pins s I => (pw_or1 (pt_w (X := X) (e := a))).run wh pins s σ H Q I (ha _ m F env st σ H Q a0 h)⟩
theorem sw_and {a b : Expr} {rest : List Expr} {d d' : DT} {pos : Pos} (ha : ST T X W a d) (hb : SW T X W (.BoolOp .And (b :: rest) pos) d') : SW T X W (.BoolOp .And (a :: b :: rest) pos) (dAndT d d') := by
  refine ⟨?_⟩
  intro G m F env st σ H Q at0 h wh pins s I
  refine (pw_and (pt_w (X := X) (e := a)) (pw_w (X := X) (e := .BoolOp .And (b :: rest) pos))).run wh pins s σ H Q I ?_
  refine ha _ m F env st σ H _ at0 (Post.bind h fun x st1 m1 F1 H1 v e1 l1 S1 r1 h1 => ?_)
  cases r1
  cases x with
  | true => rw [if_pos rfl] at h1 ⊢; exact hb _ m1 F1 env st1 σ H1 _ (at0.next l1 S1) h1
  | false => rw [if_neg Bool.false_ne_true] at h1 ⊢; exact h1 m1 F1 H1 _ Le.refl S1 rfl
theorem sw_or {a b : Expr} {rest : List Expr} {d d' : DT} {pos : Pos} (ha : ST T X W a d) (hb : SW T X W (.BoolOp .Or (b :: rest) pos) d') : SW T X W (.BoolOp .Or (a :: b :: rest) pos) (dOrT d d') := by
  refine ⟨?_⟩
  intro G m F env st σ H Q at0 h wh pins s I
  refine (pw_or (pt_w (X := X) (e := a)) (pw_w (X := X) (e := .BoolOp .Or (b :: rest) pos))).run wh pins s σ H Q I ?_
  refine ha _ m F env st σ H _ at0 (Post.bind h fun x st1 m1 F1 H1 v e1 l1 S1 r1 h1 => ?_)
  cases r1
  cases x with
  | true => rw [if_pos rfl] at h1 ⊢; exact h1 m1 F1 H1 _ Le.refl S1 rfl
  | false => rw [if_neg Bool.false_ne_true] at h1 ⊢; exact hb _ m1 F1 env st1 σ H1 _ (at0.next l1 S1) h1
/-- as values: the parts but the last are bools -/
def dAnd (a b : DE) : DE := fun env st => (a env st).bind fun x st1 => (asB x st1).bind fun k st2 => if k = true then b env st2 else .ok (.bl false) st2
def dOr (a b : DE) : DE := fun env st => (a env st).bind fun x st1 => (asB x st1).bind fun k st2 => if k = true then .ok (.bl true) st2 else b env st2
def dNot (a : DE) : DE := fun env st => (a env st).bind fun x st1 => (asB x st1).bind fun k st2 => .ok (.bl (!k)) st2
theorem asB_post {γ δ : Type} {Rq : List Addr → Hp → γ → δ → Prop} {m : List Addr} {F : Hp} {G : Frm} {x : D} {v : V} {st : List O} {f : Bool → List O → R γ} {Q : δ → Hp → Prop} {E : XW} (r : Rep T m F x v) (h : Post T Rq G m F ((asB x st).bind f) Q E) : ∃ k, v = .bl k ∧ Post T Rq G m F (f k st) Q E := by
  cases r with
  | bl k => exact ⟨k, rfl, h⟩
  | _ => exact h.elim
theorem se_one {op : BoolOp} {a : Expr} {d : DE} {pos : Pos} (ha : SE T X W a d) : SE T X W (.BoolOp op [a] pos) d := ⟨fun G m F env st σ H Q a0 h pins s I => (pe_one (pe_w (X := X) (e := a))).run pins s σ H Q I (ha _ m F env st σ H Q a0 h)⟩
theorem se_and {a b : Expr} {rest : List Expr} {d d' : DE} {pos : Pos} (ha : SE T X W a d) (hb : SE T X W (.BoolOp .And (b :: rest) pos) d') : SE T X W (.BoolOp .And (a :: b :: rest) pos) (dAnd d d') := by
  refine ⟨?_⟩
  intro G m F env st σ H Q at0 h pins s I
  refine (pe_and (pe_w (X := X) (e := a)) (pe_w (X := X) (e := .BoolOp .And (b :: rest) pos))).run pins s σ H Q I ?_
  refine ha _ m F env st σ H _ at0 (Post.bind h fun x st1 m1 F1 H1 v e1 l1 S1 r1 h1 => ?_)
  obtain ⟨k, rfl, h1⟩ := asB_post r1 h1
  refine ⟨k, rfl, ?_⟩
  cases k with
  | true => rw [if_pos rfl] at h1 ⊢; exact hb _ m1 F1 env st1 σ H1 _ (at0.next l1 S1) h1
  | false => rw [if_neg Bool.false_ne_true] at h1 ⊢; exact h1 m1 F1 H1 _ Le.refl S1 (.bl false)
theorem se_or {a b : Expr} {rest : List Expr} {d d' : DE} {pos : Pos} (ha : SE T X W a d) (hb : SE T X W (.BoolOp .Or (b :: rest) pos) d') : SE T X W (.BoolOp .Or (a :: b :: rest) pos) (dOr d d') := by
  refine ⟨?_⟩
  intro G m F env st σ H Q at0 h pins s I
  refine (pe_or (pe_w (X := X) (e := a)) (pe_w (X := X) (e := .BoolOp .Or (b :: rest) pos))).run pins s σ H Q I ?_
  refine ha _ m F env st σ H _ at0 (Post.bind h fun x st1 m1 F1 H1 v e1 l1 S1 r1 h1 => ?_)
  obtain ⟨k, rfl, h1⟩ := asB_post r1 h1
  refine ⟨k, rfl, ?_⟩
  cases k with
  | true => rw [if_pos rfl] at h1 ⊢; exact h1 m1 F1 H1 _ Le.refl S1 (.bl true)
  | false => rw [if_neg Bool.false_ne_true] at h1 ⊢; exact hb _ m1 F1 env st1 σ H1 _ (at0.next l1 S1) h1
theorem se_not {a : Expr} {d : DE} {pos : Pos} (ha : SE T X W a d) : SE T X W (.UnaryOp .Not a pos) (dNot d) := by
  refine ⟨?_⟩
  intro G m F env st σ H Q at0 h pins s I
  refine (pe_not (pe_w (X := X) (e := a))).run pins s σ H Q I ?_
  refine ha _ m F env st σ H _ at0 (Post.bind h fun x st1 m1 F1 H1 v e1 l1 S1 r1 h1 => ?_)
  obtain ⟨k, rfl, h1⟩ := asB_post r1 h1
  exact ⟨k, rfl, h1 m1 F1 H1 _ Le.refl S1 (.bl _)⟩
def dIf (c : DT) (a b : DE) : DE := fun env st => (c env st).bind fun k st1 => if k = true then a env st1 else b env st1
theorem se_if {c a b : Expr} {dc : DT} {da db : DE} {pos : Pos} (hc : ST T X W c dc) (ha : SE T X W a da) (hb : SE T X W b db) : SE T X W (.IfExp c a b pos) (dIf dc da db) := by
  refine ⟨?_⟩
  intro G m F env st σ H Q at0 h pins s I
  refine (pe_ifExp (pt_w (X := X) (e := c)) (pe_w (X := X) (e := a)) (pe_w (X := X) (e := b))).run pins s σ H Q I ?_
  refine hc _ m F env st σ H _ at0 (Post.bind h fun x st1 m1 F1 H1 v e1 l1 S1 r1 h1 => ?_)
  cases r1
  cases x with
  | true => rw [if_pos rfl] at h1 ⊢; exact ha _ m1 F1 env st1 σ H1 _ (at0.next l1 S1) h1
  | false => rw [if_neg Bool.false_ne_true] at h1 ⊢; exact hb _ m1 F1 env st1 σ H1 _ (at0.next l1 S1) h1

/-! ### displays -/
def dTup (ds : DA) : DE := fun env st => (ds env st).bind fun xs st1 => if xs.length ≤ sizeLine then .ok (.tup xs) st1 else .no
def dLst (ds : DA) : DE := fun env st => (ds env st).bind fun xs st1 => if xs.length ≤ sizeLine then .ok (.lst xs) st1 else .no
/-- a list that will change -/
def dCel (ds : DA) : DE := fun env st => (ds env st).bind fun xs st1 => if xs.length ≤ sizeLine then .ok (.cel st1.length) (st1 ++ [.lst xs]) else .no
theorem Sim.newTup {m : List Addr} {F H : Hp} {G : Frm} {st : List O} {ds : List D} {vs : List V} {p : Addr} (S : Sim T G m st F H) (r : Reps T m F ds vs) (hp : H p = none) :
    Sim T G m st (upd F p (.tup vs)) (upd H p (.tup vs)) ∧ Le m F m (upd F p (.tup vs)) ∧ Rep T m (upd F p (.tup vs)) (.tup ds) (.ref p) := by
  obtain ⟨S1, l⟩ := S.laid (o := .tup vs) hp
  exact ⟨S1, l, .tup (SqT.of upd_same) (Reps.le l r)⟩
theorem Sim.newLst {m : List Addr} {F H : Hp} {G : Frm} {st : List O} {ds : List D} {vs : List V} {p : Addr} (S : Sim T G m st F H) (r : Reps T m F ds vs) (hp : H p = none) :
    Sim T G m st (upd F p (.lst vs)) (upd H p (.lst vs)) ∧ Le m F m (upd F p (.lst vs)) ∧ Rep T m (upd F p (.lst vs)) (.lst ds) (.ref p) := by
  obtain ⟨S1, l⟩ := S.laid (o := .lst vs) hp
  exact ⟨S1, l, .lst upd_same (Reps.le l r)⟩
theorem Sim.newCel {m : List Addr} {F H : Hp} {G : Frm} {st : List O} {ds : List D} {vs : List V} {p : Addr} (S : Sim T G m st F H) (r : Reps T m F ds vs) (hp : H p = none) :
    Sim T G (m ++ [p]) (st ++ [.lst ds]) F (upd H p (.lst vs)) ∧ Le m F (m ++ [p]) F ∧ Rep T (m ++ [p]) F (.cel st.length) (.ref p) := by
  refine ⟨S.cell hp rfl ⟨vs, upd_same, Reps.le Le.push r, S.sub.free hp⟩, Le.push, .cel ?_⟩
  rw [S.len, List.getElem?_append_right (Nat.le_refl _)]
  simp
theorem se_tup {es : List Expr} {ds : DA} {x1 : Nat} {pos : Pos} (he : SA T X W es ds) : SE T X W (.Tuple es x1 pos) (dTup ds) := by
  refine ⟨?_⟩
  intro G m F env st σ H Q at0 h pins s I
  refine (pe_tup (pa_w (X := X) (es := es))).run pins s σ H Q I ?_
  refine he _ m F env st σ H _ at0 (Post.bind h fun xs st1 m1 F1 H1 vs e1 l1 S1 r1 h1 => ?_)
  by_cases hl : xs.length ≤ sizeLine
  · rw [if_pos hl] at h1
    refine ⟨by rw [← Reps.length r1]; exact hl, fun p hp => ?_⟩
    obtain ⟨S2, l2, r2⟩ := S1.newTup r1 hp
    exact h1 m1 _ _ _ l2 S2 r2
  · rw [if_neg hl] at h1; exact h1.elim
theorem se_lst {es : List Expr} {ds : DA} {pos : Pos} (he : SA T X W es ds) : SE T X W (.List es pos) (dLst ds) := by
  refine ⟨?_⟩
  intro G m F env st σ H Q at0 h pins s I
  refine (pe_lst (pa_w (X := X) (es := es))).run pins s σ H Q I ?_
  refine he _ m F env st σ H _ at0 (Post.bind h fun xs st1 m1 F1 H1 vs e1 l1 S1 r1 h1 => ?_)
  by_cases hl : xs.length ≤ sizeLine
  · rw [if_pos hl] at h1
    refine ⟨by rw [← Reps.length r1]; exact hl, fun p hp => ?_⟩
    obtain ⟨S2, l2, r2⟩ := S1.newLst r1 hp
    exact h1 m1 _ _ _ l2 S2 r2
  · rw [if_neg hl] at h1; exact h1.elim
theorem se_cel {es : List Expr} {ds : DA} {pos : Pos} (he : SA T X W es ds) : SE T X W (.List es pos) (dCel ds) := by
  refine ⟨?_⟩
  intro G m F env st σ H Q at0 h pins s I
  refine (pe_lst (pa_w (X := X) (es := es))).run pins s σ H Q I ?_
  refine he _ m F env st σ H _ at0 (Post.bind h fun xs st1 m1 F1 H1 vs e1 l1 S1 r1 h1 => ?_)
  by_cases hl : xs.length ≤ sizeLine
  · rw [if_pos hl] at h1
    refine ⟨by rw [← Reps.length r1]; exact hl, fun p hp => ?_⟩
    obtain ⟨S2, l2, r2⟩ := S1.newCel r1 hp
    exact h1 _ _ _ _ l2 S2 r2
  · rw [if_neg hl] at h1; exact h1.elim
end
end Den

namespace Den
open PySem PySem.Spec PyProof.Rows L2

/-! ### operators on ints, texts, sequences -/
def iop (f : Int → Int → Int) (c : Int → Int → Bool) : D → D → List O → R D := fun x y st => match x, y with
  | .int i, .int j => if c i j then .ok (.int (f i j)) st else .no
  | _, _ => .no
def icmp (f : Int → Int → Bool) : D → D → List O → R D := fun x y st => match x, y with
  | .int i, .int j => .ok (.bl (f i j)) st
  | _, _ => .no
section
variable {T : Tab} {X : Cx} {W : WX} {m m' : List Addr} {F F' H H' : Hp} {G : Frm} {st st' : List O}
theorem opd_int {op : Value → Value → Sem Value} {f : Int → Int → Int} {c : Int → Int → Bool} {C : Int → Int → Prop} (h : OpR X op (rI C fun i j => .int (f i j))) (hc : ∀ i j, c i j = true → C i j) : OpD T X op (iop f c) := by
  intro pins s σ H x y v u Q I rx ry q
  obtain ⟨G, m, F, st, dx, dy, S, r1, r2, p⟩ := q
  unfold iop at p
  split at p
  · rename_i i j
    cases r1
    cases r2
    by_cases e : c i j = true
    · rw [if_pos e] at p
      exact h pins s σ H _ _ v u Q I rx ry ⟨i, j, rfl, rfl, hc i j e, p m F H _ Le.refl S (.int _)⟩
    · rw [if_neg e] at p; exact p.elim
  · exact p.elim
theorem opd_int0 {op : Value → Value → Sem Value} {f : Int → Int → Int} (h : OpR X op (rI0 fun i j => .int (f i j))) : OpD T X op (iop f fun _ _ => true) := by
  intro pins s σ H x y v u Q I rx ry q
  obtain ⟨G, m, F, st, dx, dy, S, r1, r2, p⟩ := q
  unfold iop at p
  split at p
  · rename_i i j
    cases r1
    cases r2
    rw [if_pos rfl] at p
    exact h pins s σ H _ _ v u Q I rx ry ⟨i, j, rfl, rfl, p m F H _ Le.refl S (.int _)⟩
  · exact p.elim
theorem opd_icmp {op : Value → Value → Sem Value} {f : Int → Int → Bool} (h : OpR X op (rI0 fun i j => .bl (f i j))) : OpD T X op (icmp f) := by
  intro pins s σ H x y v u Q I rx ry q
  obtain ⟨G, m, F, st, dx, dy, S, r1, r2, p⟩ := q
  unfold icmp at p
  split at p
  · rename_i i j
    cases r1
    cases r2
    exact h pins s σ H _ _ v u Q I rx ry ⟨i, j, rfl, rfl, p m F H _ Le.refl S (.bl _)⟩
  · exact p.elim
def oSub := iop (fun i j => i - j) fun _ _ => true
def oFdiv := iop (fun i j => i / j) fun i j => decide (0 < j) && decide (j.natAbs.log2 < 9000)
def oMod := iop (fun i j => i % j) fun i j => decide (0 < j)
def oPow := iop (fun i j => i ^ j.toNat) fun i j => decide (0 ≤ j) && decide (j ≤ 1000000) && decide (i.natAbs < 2 ^ 64)
def oShl := iop (fun i j => i * 2 ^ j.toNat) fun i j => decide (0 ≤ j) && decide (j ≤ 1000000) && decide (i.natAbs < 2 ^ 64)
def oShr := iop (fun i j => i / 2 ^ j.toNat) fun i j => decide (0 ≤ j)
def oAnd := iop Builtin.bitAnd fun _ _ => true
def oOr := iop Builtin.bitOr fun _ _ => true
def oXor := iop Builtin.bitXor fun _ _ => true
def oLt := icmp fun i j => decide (i < j)
def oLe := icmp fun i j => decide (i ≤ j)
def oGt := icmp fun i j => decide (j < i)
def oGe := icmp fun i j => decide (j ≤ i)
theorem od_sub : OpD T X (binaryOp .Sub) oSub := opd_int0 op_sub
theorem od_fdiv : OpD T X (binaryOp .FloorDiv) oFdiv := opd_int op_fdivW fun i j h => by
  simp only [Bool.and_eq_true, decide_eq_true_eq] at h; exact ⟨h.1, h.2⟩
theorem od_mod : OpD T X (binaryOp .Mod) oMod := opd_int op_mod fun i j h => of_decide_eq_true h
theorem od_pow : OpD T X (binaryOp .Pow) oPow := opd_int op_pow fun i j h => by
  simp only [Bool.and_eq_true, decide_eq_true_eq] at h; exact ⟨h.1.1, h.1.2, h.2⟩
theorem od_shl : OpD T X (binaryOp .LShift) oShl := opd_int op_shl fun i j h => by
  simp only [Bool.and_eq_true, decide_eq_true_eq] at h; exact ⟨h.1.1, h.1.2, h.2⟩
theorem od_shr : OpD T X (binaryOp .RShift) oShr := opd_int op_shr fun i j h => of_decide_eq_true h
theorem od_and : OpD T X (binaryOp .BitAnd) oAnd := opd_int0 op_and
theorem od_or : OpD T X (binaryOp .BitOr) oOr := opd_int0 op_or
theorem od_xor : OpD T X (binaryOp .BitXor) oXor := opd_int0 op_xor
theorem od_lt : OpD T X (compareOp .Lt) oLt := opd_icmp op_lt
theorem od_le : OpD T X (compareOp .LtE) oLe := opd_icmp op_le
theorem od_gt : OpD T X (compareOp .Gt) oGt := opd_icmp op_gt
theorem od_ge : OpD T X (compareOp .GtE) oGe := opd_icmp op_ge

/-- the items of a list or a tuple -/
def lstOf (d : D) (st : List O) : Option (List D) := match d with
  | .lst xs => some xs
  | .cel n => match st[n]? with
    | some (.lst xs) => some xs
    | some (.lent xs) => some xs
    | _ => none
  | _ => none
def seqOf (d : D) (st : List O) : Option (List D) := match d with
  | .tup xs => some xs
  | .rol xs => some xs
  | _ => lstOf d st
theorem lstOf_rep {d : D} {v : V} {xs : List D} (S : Sim T G m st F H) (r : Rep T m F d v) (e : lstOf d st = some xs) : ∃ a vs, v = .ref a ∧ H a = some (.lst vs) ∧ Reps T m F xs vs := by
  cases r with
  | lst h r =>
    have e : some _ = some xs := e
    cases e
    exact ⟨_, _, rfl, S.sub _ _ h, r⟩
  | cel h =>
    rename_i n a
    cases hq : st[n]? with
    | none => simp only [lstOf, hq] at e; cases e
    | some o =>
      cases o with
      | lst ys =>
        simp only [lstOf, hq] at e
        cases e
        obtain ⟨vs, h1, h2, h3⟩ := S.cells _ _ _ hq h
        exact ⟨a, vs, rfl, h1, h2⟩
      | ins c fs => simp only [lstOf, hq] at e; cases e
      | lent ys =>
        simp only [lstOf, hq] at e
        cases e
        obtain ⟨vs, h1, h2, h3⟩ := S.cells _ _ _ hq h
        exact ⟨a, vs, rfl, h1, h2⟩
  | _ => cases e
theorem seqOf_rep {d : D} {v : V} {xs : List D} (S : Sim T G m st F H) (r : Rep T m F d v) (e : seqOf d st = some xs) : ∃ a vs, v = .ref a ∧ (SqL T.K H a vs ∨ SqT T.K H a vs) ∧ Reps T m F xs vs := by
  cases r with
  | tup h r =>
    have e : some _ = some xs := e
    cases e
    exact ⟨_, _, rfl, .inr (sqT_same S.sub h), r⟩
  | rol h r =>
    have e : some _ = some xs := e
    cases e
    exact ⟨_, _, rfl, .inl (S.sub.seq h), r⟩
  | lst h r =>
    obtain ⟨a, vs, h1, h2, h3⟩ := lstOf_rep S (.lst h r) (show lstOf _ st = some xs from e)
    exact ⟨a, vs, h1, .inl (SqL.of h2), h3⟩
  | cel h =>
    obtain ⟨a, vs, h1, h2, h3⟩ := lstOf_rep S (.cel h) (show lstOf _ st = some xs from e)
    exact ⟨a, vs, h1, .inl (SqL.of h2), h3⟩
  | _ => cases e
/-- a + b -/
def oAdd : D → D → List O → R D := fun x y st => match x, y with
  | .int i, .int j => .ok (.int (i + j)) st
  | .str a, .str b => if a.length + b.length ≤ sizeLine then .ok (.str (a ++ b)) st else .no
  | .tup xs, .tup ys => if xs.length + ys.length ≤ sizeLine then .ok (.tup (xs ++ ys)) st else .no
  | x, y => match lstOf x st, lstOf y st with
    | some xs, some ys => if xs.length + ys.length ≤ sizeLine then .ok (.lst (xs ++ ys)) st else .no
    | _, _ => .no
theorem od_add (hK : X.K = T.K) : OpD T X (binaryOp .Add) oAdd := by
  intro pins s σ H x y v u Q I rx ry q
  obtain ⟨G, m, F, st, dx, dy, S, r1, r2, p⟩ := q
  unfold oAdd at p
  split at p
  · cases r1
    cases r2
    exact op_add pins s σ H _ _ v u Q I rx ry ⟨_, _, rfl, rfl, p m F H _ Le.refl S (.int _)⟩
  · cases r1
    cases r2
    split at p
    · rename_i hl
      exact op_add_str pins s σ H _ _ v u Q I rx ry ⟨_, _, rfl, rfl, hl, p m F H _ Le.refl S (.str _)⟩
    · exact p.elim
  · cases r1 with
    | tup h1 r1 =>
      cases r2 with
      | tup h2 r2 =>
        rename_i xs ys a vs b ws
        split at p
        · rename_i hl
          have e1 := Reps.length r1
          have e2 := Reps.length r2
          refine op_catA pins s σ H _ _ v u Q I rx ry ⟨_, _, vs, ws, rfl, rfl, hK ▸ sqT_same S.sub h1, hK ▸ sqT_same S.sub h2, by omega, fun z => ?_, fun z1 z2 => ?_, fun _ _ p' hp => ?_⟩
          · subst z
            cases r1
            exact p m F H _ Le.refl S (.tup h2 r2)
          · subst z2
            cases r2
            rw [List.append_nil] at p
            exact p m F H _ Le.refl S (.tup h1 r1)
          · obtain ⟨S2, l2, r2⟩ := S.newTup (r1.append r2) hp
            exact p m _ _ _ l2 S2 r2
        · exact p.elim
  · split at p
    · rename_i xs ys e1 e2
      split at p
      · rename_i hl
        obtain ⟨a, vs, rfl, g1, q1⟩ := lstOf_rep S r1 e1
        obtain ⟨b, ws, rfl, g2, q2⟩ := lstOf_rep S r2 e2
        have z1 := Reps.length q1
        have z2 := Reps.length q2
        refine op_cat pins s σ H _ _ v u Q I rx ry ⟨a, b, vs, ws, rfl, rfl, g1, g2, by omega, fun p' hp => ?_⟩
        obtain ⟨S2, l2, r2⟩ := S.newLst (q1.append q2) hp
        exact p m _ _ _ l2 S2 r2
      · exact p.elim
    · exact p.elim
/-- a * b -/
def oMul : D → D → List O → R D := fun x y st => match x, y with
  | .int i, .int j => if i.natAbs.log2 + j.natAbs.log2 < 1000000 then .ok (.int (i * j)) st else .no
  | .tup xs, .int k => if !xs.isEmpty && decide (2 ≤ k) && decide (k ≤ 1000) && decide (xs.length ≤ 1000) then .ok (.tup (List.replicate k.toNat xs).flatten) st else .no
  | .lst xs, .int k => if decide (-(2 ^ 63) ≤ k) && decide (k < 2 ^ 63) && decide (xs.length * k.toNat ≤ sizeLine) then .ok (.lst (List.replicate k.toNat xs).flatten) st else .no
  | _, _ => .no
theorem Reps.rep {ds : List D} {vs : List V} (r : Reps T m F ds vs) : ∀ n : Nat, Reps T m F (List.replicate n ds).flatten (List.replicate n vs).flatten
  | 0 => .nil
  | n + 1 => by
    rw [List.replicate_succ, List.replicate_succ, List.flatten_cons, List.flatten_cons]
    exact r.append (Reps.rep r n)
theorem od_mul (hK : X.K = T.K) : OpD T X (binaryOp .Mult) oMul := by
  intro pins s σ H x y v u Q I rx ry q
  obtain ⟨G, m, F, st, dx, dy, S, r1, r2, p⟩ := q
  unfold oMul at p
  split at p
  · cases r1
    cases r2
    split at p
    · rename_i hl
      exact op_mulW pins s σ H _ _ v u Q I rx ry ⟨_, _, rfl, rfl, hl, p m F H _ Le.refl S (.int _)⟩
    · exact p.elim
  · cases r1 with
    | tup h1 r1 =>
      cases r2
      split at p
      · rename_i hl
        simp only [Bool.and_eq_true, decide_eq_true_eq] at hl
        have e1 := Reps.length r1
        refine op_repT pins s σ H _ _ v u Q I rx ry ⟨_, _, _, rfl, rfl, hK ▸ sqT_same S.sub h1, fun z => ?_, hl.1.1.2, hl.1.2, by omega, fun p' hp => ?_⟩
        · subst z
          cases r1
          have := hl.1.1.1
          simp at this
        · obtain ⟨S2, l2, r2⟩ := S.newTup (Reps.rep r1 _) hp
          exact p m _ _ _ l2 S2 r2
      · exact p.elim
  · cases r1 with
    | lst h1 r1 =>
      cases r2
      split at p
      · rename_i hl
        simp only [Bool.and_eq_true, decide_eq_true_eq] at hl
        have e1 := Reps.length r1
        refine op_rep pins s σ H _ _ v u Q I rx ry ⟨_, _, _, rfl, rfl, S.sub _ _ h1, hl.1.1, hl.1.2, by rw [← e1]; exact hl.2, fun p' hp => ?_⟩
        obtain ⟨S2, l2, r2⟩ := S.newLst (Reps.rep r1 _) hp
        exact p m _ _ _ l2 S2 r2
      · exact p.elim
  · exact p.elim

/-! ### == of data -/
mutual
def D.py (st : List O) : D → Option PyData
  | .non => some .none
  | .bl b => some (.bool b)
  | .int i => some (.int i)
  | .str x => some (.str x)
  | .tup xs => (D.pys st xs).map .tuple
  | .lst xs => (D.pys st xs).map .list
  | .rol xs => (D.pys st xs).map .list
  | _ => none
def D.pys (st : List O) : List D → Option (List PyData)
  | [] => some []
  | x :: xs => match D.py st x, D.pys st xs with
    | some y, some ys => some (y :: ys)
    | _, _ => none
end
mutual
theorem py_dp (S : Sim T G m st F H) : ∀ {d : D} {v : V} {y : PyData}, Rep T m F d v → D.py st d = some y → Dp T.K H v y
  | _, _, _, .non, e => by simp only [D.py] at e; cases e; exact .non
  | _, _, _, .bl b, e => by simp only [D.py] at e; cases e; exact .bl b
  | _, _, _, .int i, e => by simp only [D.py] at e; cases e; exact .int i
  | _, _, _, .str x, e => by simp only [D.py] at e; cases e; exact .str x
  | _, _, _, .tup (ds := ds) h r, e => by
    simp only [D.py] at e
    cases q : D.pys st ds with
    | none => rw [q] at e; cases e
    | some ys => rw [q] at e; cases e; exact .tup (sqT_same S.sub h) (pys_dp S r q)
  | _, _, _, .lst (ds := ds) h r, e => by
    simp only [D.py] at e
    cases q : D.pys st ds with
    | none => rw [q] at e; cases e
    | some ys => rw [q] at e; cases e; exact .lst (SqL.of (S.sub _ _ h)) (pys_dp S r q)
  | _, _, _, .rol (ds := ds) h r, e => by
    simp only [D.py] at e
    cases q : D.pys st ds with
    | none => rw [q] at e; cases e
    | some ys => rw [q] at e; cases e; exact .lst (S.sub.seq h) (pys_dp S r q)
  | _, _, _, .cel h, e => by simp only [D.py] at e; cases e
  | _, _, _, .fn n, e => by simp only [D.py] at e; cases e
  | _, _, _, .cls n, e => by simp only [D.py] at e; cases e
  | _, _, _, .ty n, e => by simp only [D.py] at e; cases e
  | _, _, _, .ins h1 h2 h3, e => by simp only [D.py] at e; cases e
  | _, _, _, .dct0 h, e => by simp only [D.py] at e; cases e
  | _, _, _, .lam h1 h2, e => by simp only [D.py] at e; cases e
theorem pys_dp (S : Sim T G m st F H) : ∀ {ds : List D} {vs : List V} {ys : List PyData}, Reps T m F ds vs → D.pys st ds = some ys → DpAll T.K H vs ys
  | _, _, _, .nil, e => by simp only [D.pys] at e; cases e; exact .nil
  | _, _, _, .cons (d := d) (ds := ds) h r, e => by
    simp only [D.pys] at e
    cases q : D.py st d with
    | none => rw [q] at e; cases e
    | some y =>
      cases q2 : D.pys st ds with
      | none => rw [q, q2] at e; cases e
      | some ys => rw [q, q2] at e; cases e; exact .cons (py_dp S h q) (pys_dp S r q2)
end
/-- a value as data: a list that may change is read off -/
def asPy (d : D) (st : List O) : Option PyData := match d with
  | .cel n => match st[n]? with
    | some (.lst xs) => (D.pys st xs).map .list
    | some (.lent xs) => (D.pys st xs).map .list
    | _ => none
  | d => D.py st d
theorem asPy_dp {d : D} {v : V} {y : PyData} (S : Sim T G m st F H) (r : Rep T m F d v) (e : asPy d st = some y) : Dp T.K H v y := by
  cases r with
  | cel h =>
    rename_i n a
    cases hq : st[n]? with
    | none => simp only [asPy, hq] at e; cases e
    | some o =>
      cases o with
      | lst xs =>
        simp only [asPy, hq] at e
        obtain ⟨vs, h1, h2, h3⟩ := S.cells _ _ _ hq h
        cases q : D.pys st xs with
        | none => rw [q] at e; cases e
        | some ys => rw [q] at e; cases e; exact .lst (SqL.of h1) (pys_dp S h2 q)
      | ins c fs => simp only [asPy, hq] at e; cases e
      | lent xs =>
        simp only [asPy, hq] at e
        obtain ⟨vs, h1, h2, h3⟩ := S.cells _ _ _ hq h
        cases q : D.pys st xs with
        | none => rw [q] at e; cases e
        | some ys => rw [q] at e; cases e; exact .lst (SqL.of h1) (pys_dp S h2 q)
  | non => exact py_dp S .non e
  | bl b => exact py_dp S (.bl b) e
  | int i => exact py_dp S (.int i) e
  | str x => exact py_dp S (.str x) e
  | tup h r => exact py_dp S (.tup h r) e
  | lst h r => exact py_dp S (.lst h r) e
  | rol h r => exact py_dp S (.rol h r) e
  | _ => exact py_dp S (by first | exact .fn _ | exact .cls _ | exact .ty _ | exact .ins (by assumption) (by assumption) (by assumption) | exact .dct0 (by assumption) | exact .lam (by assumption) (by assumption) | exact .exn (by assumption) (by assumption) (by assumption) (by assumption)) e
def eqD (x y : D) (st : List O) : Option Bool := match x, y with
  | .int i, .int j => some (decide (i = j))
  | x, y => match asPy x st, asPy y st with
    | some a, some b => if SeqAt.shaped a && SeqAt.shaped b then some (PyData.eqv a b) else none
    | _, _ => none
def oEq : D → D → List O → R D := fun x y st => match eqD x y st with
  | some b => .ok (.bl b) st
  | none => .no
def oNe : D → D → List O → R D := fun x y st => match eqD x y st with
  | some b => .ok (.bl (!b)) st
  | none => .no
theorem eqD_rep {x y : D} {v u : V} {b : Bool} (S : Sim T G m st F H) (r1 : Rep T m F x v) (r2 : Rep T m F y u) (e : eqD x y st = some b) : ∃ d e, Dp T.K H v d ∧ Dp T.K H u e ∧ SeqAt.shaped d = true ∧ SeqAt.shaped e = true ∧ PyData.eqv d e = b := by
  unfold eqD at e
  split at e
  · rename_i i j
    cases r1
    cases r2
    cases e
    refine ⟨.int i, .int j, .int i, .int j, by rfl, by rfl, ?_⟩
    show (i == j) = decide (i = j)
    by_cases h : i = j <;> simp [h]
  · split at e
    · rename_i a b' e1 e2
      split at e
      · rename_i hs
        cases e
        simp only [Bool.and_eq_true] at hs
        exact ⟨a, b', asPy_dp S r1 e1, asPy_dp S r2 e2, hs.1, hs.2, rfl⟩
      · cases e
    · cases e
theorem od_eq (hK : X.K = T.K) (hu : X.A.units + 64 < cLine) : OpD T X (compareOp .Eq) oEq := by
  intro pins s σ H x y v u Q I rx ry q
  obtain ⟨G, m, F, st, dx, dy, S, r1, r2, p⟩ := q
  unfold oEq at p
  split at p
  · rename_i b hb
    obtain ⟨d, e, h1, h2, h3, h4, h5⟩ := eqD_rep S r1 r2 hb
    subst h5
    exact op_eqD hu pins s σ H x y v u Q I rx ry ⟨d, e, hK ▸ h1, hK ▸ h2, h3, h4, p m F H _ Le.refl S (.bl _)⟩
  · exact p.elim
theorem od_ne (hK : X.K = T.K) (hu : X.A.units + 64 < cLine) : OpD T X (compareOp .NotEq) oNe := by
  intro pins s σ H x y v u Q I rx ry q
  obtain ⟨G, m, F, st, dx, dy, S, r1, r2, p⟩ := q
  unfold oNe at p
  split at p
  · rename_i b hb
    obtain ⟨d, e, h1, h2, h3, h4, h5⟩ := eqD_rep S r1 r2 hb
    subst h5
    exact op_neD hu pins s σ H x y v u Q I rx ry ⟨d, e, hK ▸ h1, hK ▸ h2, h3, h4, p m F H _ Le.refl S (.bl _)⟩
  · exact p.elim
/-- is None, is not None -/
def oIsN : D → D → List O → R D := fun x y st => match y with
  | .non => match x with
    | .non => .ok (.bl true) st
    | _ => .ok (.bl false) st
  | _ => .no
def oNotN : D → D → List O → R D := fun x y st => match y with
  | .non => match x with
    | .non => .ok (.bl false) st
    | _ => .ok (.bl true) st
  | _ => .no
theorem od_isN : OpD T X (compareOp .Is) oIsN := by
  intro pins s σ H x y v u Q I rx ry q
  obtain ⟨G, m, F, st, dx, dy, S, r1, r2, p⟩ := q
  unfold oIsN at p
  split at p
  · cases r2
    refine op_isN pins s σ H x _ v u Q I rx ry ⟨rfl, ?_⟩
    cases r1 <;> exact p m F H _ Le.refl S (.bl _)
  · exact p.elim
theorem od_notN : OpD T X (compareOp .IsNot) oNotN := by
  intro pins s σ H x y v u Q I rx ry q
  obtain ⟨G, m, F, st, dx, dy, S, r1, r2, p⟩ := q
  unfold oNotN at p
  split at p
  · cases r2
    refine op_notN pins s σ H x _ v u Q I rx ry ⟨rfl, ?_⟩
    cases r1 <;> exact p m F H _ Le.refl S (.bl _)
  · exact p.elim
/-- x in a list or tuple of flat values -/
def D.flat : D → Bool
  | .non => true
  | .bl _ => true
  | .int _ => true
  | .str _ => true
  | _ => false
def D.flatV : D → V
  | .bl b => .bl b
  | .int i => .int i
  | .str x => .str x
  | _ => .non
theorem flat_rep {d : D} {v : V} (r : Rep T m F d v) (h : d.flat = true) : v = d.flatV ∧ L2.flatV v = true := by
  cases r <;> first | exact ⟨rfl, rfl⟩ | cases h
theorem flats_rep : ∀ {ds : List D} {vs : List V}, Reps T m F ds vs → ds.all D.flat = true → vs = ds.map D.flatV ∧ vs.all L2.flatV = true
  | _, _, .nil, _ => ⟨rfl, rfl⟩
  | _, _, .cons h r, e => by
    rw [List.all_cons, Bool.and_eq_true] at e
    obtain ⟨h1, h2⟩ := flat_rep h e.1
    obtain ⟨h3, h4⟩ := flats_rep r e.2
    exact ⟨by rw [List.map_cons, ← h1, ← h3], by rw [List.all_cons, h2, h4]; rfl⟩
def inD (x y : D) (st : List O) : Option Bool := match seqOf y st with
  | some ys => if x.flat && ys.all D.flat then some (inV x.flatV (ys.map D.flatV)) else none
  | none => none
def oIn : D → D → List O → R D := fun x y st => match inD x y st with
  | some b => .ok (.bl b) st
  | none => .no
def oNotIn : D → D → List O → R D := fun x y st => match inD x y st with
  | some b => .ok (.bl (!b)) st
  | none => .no
theorem inD_rep {x y : D} {v u : V} {b : Bool} (S : Sim T G m st F H) (r1 : Rep T m F x v) (r2 : Rep T m F y u) (e : inD x y st = some b) : ∃ p xs, u = .ref p ∧ (SqL T.K H p xs ∨ SqT T.K H p xs) ∧ L2.flatV v = true ∧ xs.all L2.flatV = true ∧ inV v xs = b := by
  unfold inD at e
  split at e
  · rename_i ys hy
    split at e
    · rename_i hf
      cases e
      simp only [Bool.and_eq_true] at hf
      obtain ⟨a, vs, h1, h2, h3⟩ := seqOf_rep S r2 hy
      obtain ⟨g1, g2⟩ := flat_rep r1 hf.1
      obtain ⟨g3, g4⟩ := flats_rep h3 hf.2
      exact ⟨a, vs, h1, h2, g2, g4, by rw [g1, g3]⟩
    · cases e
  · cases e
theorem od_in (hK : X.K = T.K) : OpD T X (compareOp .In) oIn := by
  intro pins s σ H x y v u Q I rx ry q
  obtain ⟨G, m, F, st, dx, dy, S, r1, r2, p⟩ := q
  unfold oIn at p
  split at p
  · rename_i b hb
    obtain ⟨a, xs, h1, h2, h3, h4, h5⟩ := inD_rep S r1 r2 hb
    refine op_in_seq pins s σ H x y v u Q I rx ry ⟨a, xs, h1, hK ▸ h2, h3, h4, ?_⟩
    rw [if_neg Bool.false_ne_true, h5]
    exact p m F H _ Le.refl S (.bl _)
  · exact p.elim
theorem od_notIn (hK : X.K = T.K) : OpD T X (compareOp .NotIn) oNotIn := by
  intro pins s σ H x y v u Q I rx ry q
  obtain ⟨G, m, F, st, dx, dy, S, r1, r2, p⟩ := q
  unfold oNotIn at p
  split at p
  · rename_i b hb
    obtain ⟨a, xs, h1, h2, h3, h4, h5⟩ := inD_rep S r1 r2 hb
    refine op_notIn_seq pins s σ H x y v u Q I rx ry ⟨a, xs, h1, hK ▸ h2, h3, h4, ?_⟩
    rw [if_pos rfl, h5]
    exact p m F H _ Le.refl S (.bl _)
  · exact p.elim

/-! ### subscripts -/
def oIx : D → D → List O → R D := fun x y st => match y with
  | .int i => match seqOf x st with
    | some xs => match atI xs i with
      | some d => .ok d st
      | none => .no
    | none => .no
  | _ => .no
theorem atI_rep {xs : List D} {vs : List V} {i : Int} {d : D} (r : Reps T m F xs vs) (e : atI xs i = some d) : ∃ v, atI vs i = some v ∧ Rep T m F d v := by
  unfold atI at e ⊢
  rw [← Reps.length r]
  cases q : ixN xs.length i with
  | none => rw [q] at e; cases e
  | some j =>
    rw [q] at e
    obtain ⟨v, h1, h2⟩ := r.get (show xs[j]? = some d from e)
    exact ⟨v, h1, h2⟩
def dIx (a b : DE) : DE := dOp oIx a b
theorem se_ix {a b : Expr} {pos : Pos} {da db : DE} (hK : X.K = T.K) (ha : SE T X W a da) (hb : SE T X W b db) (hs : PlainIx b) : SE T X W (.Subscript a b pos) (dIx da db) := by
  refine ⟨?_⟩
  intro G m F env st σ H Q at0 h pins s I
  refine (pe_ix (ix_list.or ix_tup) (pe_w (X := X) (e := a)) (pe_w (X := X) (e := b)) hs).run pins s σ H Q I ?_
  refine ha _ m F env st σ H _ at0 (Post.bind h fun x st1 m1 F1 H1 v e1 l1 S1 r1 h1 => ?_)
  refine hb _ m1 F1 env st1 σ H1 _ (at0.next l1 S1) (Post.bind h1 fun y st2 m2 F2 H2 u e2 l2 S2 r2 h2 => ?_)
  have r1' := Rep.le l2 r1
  have h2 : Post T (RV T) G m2 F2 (oIx x y st2) Q (fun _ _ _ => False) := h2.calm
  unfold oIx at h2
  split at h2
  · cases r2
    split at h2
    · rename_i xs hx
      split at h2
      · rename_i d hd
        obtain ⟨a', vs, rfl, g1, g2⟩ := seqOf_rep S2 r1' hx
        obtain ⟨w', g3, g4⟩ := atI_rep g2 hd
        have q := h2 m2 F2 H2 w' Le.refl S2 g4
        rcases g1 with g1 | g1
        · exact .inl ⟨a', vs, _, w', rfl, rfl, hK ▸ g1, g3, q⟩
        · exact .inr ⟨a', vs, _, w', rfl, rfl, hK ▸ g1, g3, q⟩
      · exact h2.elim
    · exact h2.elim
  · exact h2.elim
/-- slices -/
abbrev DO := EV → List O → R (Option Int)
def ROp : List Addr → Hp → Option Int → Option Int → Prop := fun _ _ a b => a = b
def wO (X : Cx) (e : Option Expr) : TO := fun σ H Q => ∀ (pins : List (Addr × Obj)) (s : Shared), Inv X pins σ H s → wpAny (model X.prog X.w) X.A (evalPart e X.env) (fun u s' => ∃ o H', Inv X pins σ H' s' ∧ IsPart u o ∧ Q o H') X.xe s
theorem po_w {X : Cx} {e : Option Expr} : PO X e (wO X e) := ⟨fun pins s σ H Q I h => h pins s I⟩
structure SO (T : Tab) (X : Cx) (W : WX) (e : Option Expr) (d : DO) : Prop where
  run : ∀ G m F env st σ H Q, At T X G m st F env σ H → Post T ROp G m F (d env st) Q (fun c da H' => W c da σ H') → wO X e σ H Q
instance {T : Tab} {X : Cx} {W : WX} {e : Option Expr} {d : DO} : CoeFun (SO T X W e d) (fun _ => ∀ G m F env st σ H Q, At T X G m st F env σ H → Post T ROp G m F (d env st) Q (fun c da H' => W c da σ H') → wO X e σ H Q) := ⟨SO.run⟩
def dNo : DO := fun _ st => .ok none st
def dSo (d : DE) : DO := fun env st => (d env st).bind fun x st1 => match x with
  | .int i => .ok (some i) st1
  | _ => .no
theorem so_none : SO T X W none dNo := ⟨fun G m F env st σ H Q at0 h pins s I => po_none.run pins s σ H Q I (h m F H none Le.refl at0.sim rfl)⟩
theorem so_some {e : Expr} {d : DE} (he : SE T X W e d) : SO T X W (some e) (dSo d) := by
  refine ⟨?_⟩
  intro G m F env st σ H Q at0 h pins s I
  refine (po_some (pe_w (X := X) (e := e))).run pins s σ H Q I ?_
  refine he _ m F env st σ H _ at0 (Post.bind h fun x st1 m1 F1 H1 v e1 l1 S1 r1 h1 => ?_)
  cases r1 with
  | int i => exact ⟨i, rfl, h1 m1 F1 H1 _ Le.refl S1 rfl⟩
  | _ => exact h1.elim
def cutD (xs : List D) (lo hi : Option Int) : List D := (xs.drop (HT.sIx xs.length 0 lo)).take (HT.sIx xs.length xs.length hi - HT.sIx xs.length 0 lo)
theorem cut_rep {xs : List D} {vs : List V} {lo hi : Option Int} (r : Reps T m F xs vs) : Reps T m F (cutD xs lo hi) (cutV vs lo hi) := by
  unfold cutD cutV
  rw [← Reps.length r]
  exact (r.drop _).take _
def dSl (d : DE) (lo hi : DO) : DE := fun env st => (d env st).bind fun x st1 => (lo env st1).bind fun l st2 => (hi env st2).bind fun u st3 => match x with
  | .tup xs => .ok (.tup (cutD xs l u)) st3
  | x => match lstOf x st3 with
    | some xs => .ok (.lst (cutD xs l u)) st3
    | none => .no
theorem cutV_all {xs : List V} {lo hi : Option Int} (h1 : HT.sIx xs.length 0 lo = 0) (h2 : HT.sIx xs.length xs.length hi = xs.length) : cutV xs lo hi = xs := by
  unfold cutV
  rw [h1, h2, List.drop_zero, Nat.sub_zero, List.take_length]
theorem cutD_all {xs : List D} {lo hi : Option Int} (h1 : HT.sIx xs.length 0 lo = 0) (h2 : HT.sIx xs.length xs.length hi = xs.length) : cutD xs lo hi = xs := by
  unfold cutD
  rw [h1, h2, List.drop_zero, Nat.sub_zero, List.take_length]
theorem se_sl {e : Expr} {lo hi : Option Expr} {p2 pos : Pos} {d : DE} {dl dh : DO} (hK : X.K = T.K) (he : SE T X W e d) (hl : SO T X W lo dl) (hh : SO T X W hi dh) : SE T X W (.Subscript e (.Slice lo hi none p2) pos) (dSl d dl dh) := by
  refine ⟨?_⟩
  intro G m F env st σ H Q at0 h pins s I
  refine (pe_slice (sl_tupA.or sl_list) (pe_w (X := X) (e := e)) (po_w (X := X) (e := lo)) (po_w (X := X) (e := hi))).run pins s σ H Q I ?_
  refine he _ m F env st σ H _ at0 (Post.bind h fun x st1 m1 F1 H1 v e1 l1 S1 r1 h1 => ?_)
  refine hl _ m1 F1 env st1 σ H1 _ (at0.next l1 S1) (Post.bind h1 fun l st2 m2 F2 H2 l' e2 l2 S2 r2 h2 => ?_)
  cases r2
  refine hh _ m2 F2 env st2 σ H2 _ ((at0.next l1 S1).next l2 S2) (Post.bind h2 fun u st3 m3 F3 H3 u' e3 l3 S3 r3 h3 => ?_)
  cases r3
  have r1' := Rep.le (l2.trans l3) r1
  split at h3
  · cases r1' with
    | tup g r =>
      have el := Reps.length r
      refine .inl ⟨_, _, rfl, hK ▸ sqT_same S3.sub g, fun z => ?_, fun _ p hp => ?_⟩
      · obtain ⟨z1, z2⟩ := z
        rw [cutD_all (by rw [el]; exact z1) (by rw [el]; exact z2)] at h3
        exact h3 m3 F3 H3 _ Le.refl S3 (.tup g r)
      · obtain ⟨S4, l4, r4⟩ := S3.newTup (cut_rep r) hp
        exact h3 m3 _ _ _ l4 S4 r4
  · split at h3
    · rename_i xs hx
      obtain ⟨a', vs, rfl, g1, g2⟩ := lstOf_rep S3 r1' hx
      refine .inr ⟨a', vs, rfl, SqL.of g1, fun p hp => ?_⟩
      obtain ⟨S4, l4, r4⟩ := S3.newLst (cut_rep g2) hp
      exact h3 m3 _ _ _ l4 S4 r4
    · exact h3.elim
end
end Den

namespace Den
open PySem PySem.Spec PyProof.Rows L2

/-! ### calls of built-ins, by values -/
def rD1 (T : Tab) (g : List D → List O → R D) : List V → Hp → VK → Prop := fun xs H Q => ∃ G m F st ds, Sim T G m st F H ∧ Reps T m F ds xs ∧ Post T (RV T) G m F (g ds st) Q (fun _ _ _ => False)
def CallD (T : Tab) (X : Cx) (f : Value) (g : List D → List O → R D) : Prop := CallR X f (rD1 T g)
def dCall (g : List D → List O → R D) (da : DA) : DE := fun env st => (da env st).bind fun xs st1 => (g xs st1).calm
section
variable {T : Tab} {X : Cx} {W : WX} {m m' : List Addr} {F F' H H' : Hp} {G : Frm} {st st' : List O}
theorem call_core {t : TA} {es : List Expr} {g : List D → List O → R D} {da : DA} (ha : SA T X W es da) {env : EV} {σ : L2.St} {Q : VK} (at0 : At T X G m st F env σ H) (h : Post T (RV T) G m F (dCall g da env st) Q (fun c da H' => W c da σ H')) :
    tCB (rD1 T g) (wA X es) σ H Q := by
  refine ha _ m F env st σ H _ at0 (Post.bind h fun xs st1 m1 F1 H1 vs e1 l1 S1 r1 h1 => ?_)
  exact ⟨_, m1, F1, st1, xs, S1, r1, h1.calm⟩
theorem se_callB {x : Str} {id : String} {e : Expr} {es : List Expr} {p pos : Pos} {g : List D → List O → R D} {da : DA} (hc : CallD T X (.builtin id) g) (hg : Gl X x) (hm : X.mg x = none) (hv : bootBuiltins x = some (.builtin id)) (ha : SA T X W (e :: es) da) (hn : x ≠ "__name__" := by decide) (hdb : (x == ("__debug__" : Str)) = false := by decide)
    (he : starEach (e :: es) X.env = (false, eval e X.env) :: starEach es X.env := by exact star_of rfl) (hpl : (backTo pos (starEach es X.env)).any (·.1) = false := by exact hpl_of rfl) : SE T X W (.Call (.Name x p) (e :: es) [] pos) (dCall g da) :=
  ⟨fun G m F env st σ H Q at0 h pins s I => (pe_callB hc hg hm hv (pa_w (X := X) (es := e :: es)) hn hdb he hpl).run pins s σ H Q I (call_core (t := tNil) ha at0 h)⟩
theorem se_callT {x : Str} {id : String} {e : Expr} {es : List Expr} {p pos : Pos} {g : List D → List O → R D} {da : DA} (hc : CallD T X (.type id) g) (hg : Gl X x) (hm : X.mg x = none) (hv : bootBuiltins x = some (.type id)) (ha : SA T X W (e :: es) da) (hn : x ≠ "__name__" := by decide) (hdb : (x == ("__debug__" : Str)) = false := by decide)
    (he : starEach (e :: es) X.env = (false, eval e X.env) :: starEach es X.env := by exact star_of rfl) (hpl : (backTo pos (starEach es X.env)).any (·.1) = false := by exact hpl_of rfl) : SE T X W (.Call (.Name x p) (e :: es) [] pos) (dCall g da) :=
  ⟨fun G m F env st σ H Q at0 h pins s I => (pe_callTy hc hg hm hv (pa_w (X := X) (es := e :: es)) hn hdb he hpl).run pins s σ H Q I (call_core (t := tNil) ha at0 h)⟩
def bLen : List D → List O → R D := fun xs st => match xs with
  | [.str x] => if x.length ≤ sizeLine then .ok (.int x.length) st else .no
  | [d] => match seqOf d st with
    | some ys => .ok (.int ys.length) st
    | none => .no
  | _ => .no
theorem bd_len (hK : X.K = T.K) : CallD T X (.builtin "len") bLen := by
  intro pins s σ H xs us Q I r h
  obtain ⟨G, m, F, st, ds, S, r1, p⟩ := h
  unfold bLen at p
  split at p
  · rename_i x
    cases r1 with
    | cons a b =>
      cases b
      cases a
      split at p
      · rename_i hl
        exact call_len_str pins s σ H _ us Q I r ⟨x, rfl, hl, p m F H _ Le.refl S (.int _)⟩
      · exact p.elim
  · rename_i d hd
    cases r1 with
    | cons a b =>
      cases b
      split at p
      · rename_i ys hy
        obtain ⟨q, vs, rfl, g1, g2⟩ := seqOf_rep S a hy
        refine call_len_seq pins s σ H _ us Q I r ⟨q, vs, rfl, hK ▸ g1, ?_⟩
        rw [← Reps.length g2]
        exact p m F H _ Le.refl S (.int _)
      · exact p.elim
  · exact p.elim
def boolsD : List D → Option (List Bool)
  | [] => some []
  | .bl b :: r => match boolsD r with
    | some bs => some (b :: bs)
    | none => none
  | _ => none
theorem bools_rep : ∀ {ds : List D} {vs : List V} {bs : List Bool}, Reps T m F ds vs → boolsD ds = some bs → vs = bs.map V.bl
  | _, _, _, .nil, e => by simp only [boolsD] at e; cases e; rfl
  | _, _, _, .cons (d := d) (ds := ds) h r, e => by
    cases h with
    | bl b =>
      simp only [boolsD] at e
      cases q : boolsD ds with
      | none => rw [q] at e; cases e
      | some bs =>
        rw [q] at e
        cases e
        rw [bools_rep r q]
        rfl
    | _ => simp only [boolsD] at e; cases e
def intsD : List D → Option (List Int)
  | [] => some []
  | .int b :: r => match intsD r with
    | some bs => some (b :: bs)
    | none => none
  | _ => none
theorem ints_rep : ∀ {ds : List D} {vs : List V} {bs : List Int}, Reps T m F ds vs → intsD ds = some bs → vs = bs.map V.int
  | _, _, _, .nil, e => by simp only [intsD] at e; cases e; rfl
  | _, _, _, .cons (d := d) (ds := ds) h r, e => by
    cases h with
    | int b =>
      simp only [intsD] at e
      cases q : intsD ds with
      | none => rw [q] at e; cases e
      | some bs =>
        rw [q] at e
        cases e
        rw [ints_rep r q]
        rfl
    | _ => simp only [intsD] at e; cases e
theorem ints_reps : ∀ {ns : List Int}, Reps T m F (ns.map D.int) (ns.map V.int)
  | [] => .nil
  | n :: ns => .cons (.int n) ints_reps
def bAll : List D → List O → R D := fun xs st => match xs with
  | [d] => match lstOf d st with
    | some ys => match boolsD ys with
      | some bs => .ok (.bl (bs.all id)) st
      | none => .no
    | none => .no
  | _ => .no
def bAny : List D → List O → R D := fun xs st => match xs with
  | [d] => match lstOf d st with
    | some ys => match boolsD ys with
      | some bs => .ok (.bl (bs.any id)) st
      | none => .no
    | none => .no
  | _ => .no
theorem bd_all (hK : X.K = T.K) (hc : X.calm = true) : CallD T X (.builtin "all") bAll := by
  intro pins s σ H xs us Q I r h
  obtain ⟨G, m, F, st, ds, S, r1, p⟩ := h
  unfold bAll at p
  split at p
  · cases r1 with
    | cons a b =>
      cases b
      split at p
      · rename_i ys hy
        split at p
        · rename_i bs hb
          obtain ⟨q, vs, rfl, g1, g2⟩ := lstOf_rep S a hy
          have e := bools_rep g2 hb
          subst e
          exact cr_all hc pins s σ H _ us Q I r ⟨q, bs, rfl, SqL.of g1, p m F H _ Le.refl S (.bl _)⟩
        · exact p.elim
      · exact p.elim
  · exact p.elim
theorem bd_any (hK : X.K = T.K) (hc : X.calm = true) : CallD T X (.builtin "any") bAny := by
  intro pins s σ H xs us Q I r h
  obtain ⟨G, m, F, st, ds, S, r1, p⟩ := h
  unfold bAny at p
  split at p
  · cases r1 with
    | cons a b =>
      cases b
      split at p
      · rename_i ys hy
        split at p
        · rename_i bs hb
          obtain ⟨q, vs, rfl, g1, g2⟩ := lstOf_rep S a hy
          have e := bools_rep g2 hb
          subst e
          exact cr_any hc pins s σ H _ us Q I r ⟨q, bs, rfl, SqL.of g1, p m F H _ Le.refl S (.bl _)⟩
        · exact p.elim
      · exact p.elim
  · exact p.elim
def bSum : List D → List O → R D := fun xs st => match xs with
  | [d] => match lstOf d st with
    | some ys => match intsD ys with
      | some ns => .ok (.int ns.sum) st
      | none => .no
    | none => .no
  | _ => .no
theorem bd_sum (hK : X.K = T.K) (hc : X.calm = true) : CallD T X (.builtin "sum") bSum := by
  intro pins s σ H xs us Q I r h
  obtain ⟨G, m, F, st, ds, S, r1, p⟩ := h
  unfold bSum at p
  split at p
  · cases r1 with
    | cons a b =>
      cases b
      split at p
      · rename_i ys hy
        split at p
        · rename_i bs hb
          obtain ⟨q, vs, rfl, g1, g2⟩ := lstOf_rep S a hy
          have e := ints_rep g2 hb
          subst e
          exact cr_sum hc pins s σ H _ us Q I r ⟨q, bs, rfl, SqL.of g1, p m F H _ Le.refl S (.int _)⟩
        · exact p.elim
      · exact p.elim
  · exact p.elim
def bTup : List D → List O → R D := fun xs st => match xs with
  | [.tup ys] => .ok (.tup ys) st
  | [d] => match seqOf d st with
    | some ys => .ok (.tup ys) st
    | none => .no
  | _ => .no
theorem bd_tup (hK : X.K = T.K) : CallD T X (.type "tuple") bTup := by
  intro pins s σ H xs us Q I r h
  obtain ⟨G, m, F, st, ds, S, r1, p⟩ := h
  unfold bTup at p
  split at p
  · cases r1 with
    | cons a b =>
      cases b
      cases a with
      | tup g1 g2 => exact call_tuple_of pins s σ H _ us Q I r ⟨_, _, rfl, .inr ⟨hK ▸ sqT_same S.sub g1, p m F H _ Le.refl S (.tup g1 g2)⟩⟩
  · rename_i d hd
    cases r1 with
    | cons a b =>
      cases b
      split at p
      · rename_i ys hy
        obtain ⟨q, vs, rfl, g1, g2⟩ := seqOf_rep S a hy
        rcases g1 with g1 | g1
        · refine call_tuple_of pins s σ H _ us Q I r ⟨q, vs, rfl, .inl ⟨hK ▸ g1, fun l hl => ?_⟩⟩
          obtain ⟨S2, l2, r2⟩ := S.newTup g2 hl
          exact p m _ _ _ l2 S2 r2
        · cases a with
          | tup g3 g4 => exact absurd rfl (hd _)
          | rol g3 g4 =>
            refine call_tuple_of pins s σ H _ us Q I r ⟨q, _, rfl, .inl ⟨hK ▸ S.sub.seq g3, fun l hl => ?_⟩⟩
            have e : some _ = some ys := hy
            cases e
            obtain ⟨S2, l2, r2⟩ := S.newTup g4 hl
            exact p m _ _ _ l2 S2 r2
          | lst g3 g4 =>
            refine call_tuple_of pins s σ H _ us Q I r ⟨q, _, rfl, .inl ⟨SqL.of (S.sub _ _ g3), fun l hl => ?_⟩⟩
            have e : some _ = some ys := hy
            cases e
            obtain ⟨S2, l2, r2⟩ := S.newTup g4 hl
            exact p m _ _ _ l2 S2 r2
          | cel g3 =>
            obtain ⟨q', ws, z1, z2, z3⟩ := lstOf_rep S (.cel g3) (show lstOf _ st = some ys from hy)
            cases z1
            refine call_tuple_of pins s σ H _ us Q I r ⟨q, ws, rfl, .inl ⟨SqL.of z2, fun l hl => ?_⟩⟩
            obtain ⟨S2, l2, r2⟩ := S.newTup z3 hl
            exact p m _ _ _ l2 S2 r2
          | _ => cases hy
      · exact p.elim
  · exact p.elim
def bLst : List D → List O → R D := fun xs st => match xs with
  | [d] => match seqOf d st with
    | some ys => .ok (.lst ys) st
    | none => .no
  | _ => .no
def bLstC : List D → List O → R D := fun xs st => match xs with
  | [d] => match seqOf d st with
    | some ys => .ok (.cel st.length) (st ++ [.lst ys])
    | none => .no
  | _ => .no
theorem bd_lst (hK : X.K = T.K) : CallD T X (.type "list") bLst := by
  intro pins s σ H xs us Q I r h
  obtain ⟨G, m, F, st, ds, S, r1, p⟩ := h
  unfold bLst at p
  split at p
  · cases r1 with
    | cons a b =>
      cases b
      split at p
      · rename_i ys hy
        obtain ⟨q, vs, rfl, g1, g2⟩ := seqOf_rep S a hy
        refine call_list_of pins s σ H _ us Q I r ⟨q, vs, rfl, hK ▸ g1, fun l hl => ?_⟩
        obtain ⟨S2, l2, r2⟩ := S.newLst g2 hl
        exact p m _ _ _ l2 S2 r2
      · exact p.elim
  · exact p.elim
theorem bd_lstC (hK : X.K = T.K) : CallD T X (.type "list") bLstC := by
  intro pins s σ H xs us Q I r h
  obtain ⟨G, m, F, st, ds, S, r1, p⟩ := h
  unfold bLstC at p
  split at p
  · cases r1 with
    | cons a b =>
      cases b
      split at p
      · rename_i ys hy
        obtain ⟨q, vs, rfl, g1, g2⟩ := seqOf_rep S a hy
        refine call_list_of pins s σ H _ us Q I r ⟨q, vs, rfl, hK ▸ g1, fun l hl => ?_⟩
        obtain ⟨S2, l2, r2⟩ := S.newCel g2 hl
        exact p _ _ _ _ l2 S2 r2
      · exact p.elim
  · exact p.elim
def bInt : List D → List O → R D := fun xs st => match xs with
  | [.int i] => .ok (.int i) st
  | [.bl b] => .ok (.int (if b then 1 else 0)) st
  | _ => .no
theorem bd_int : CallD T X (.type "int") bInt := by
  intro pins s σ H xs us Q I r h
  obtain ⟨G, m, F, st, ds, S, r1, p⟩ := h
  unfold bInt at p
  split at p
  · cases r1 with
    | cons a b =>
      cases b
      cases a
      exact call_int1 pins s σ H _ us Q I r (.inl ⟨_, rfl, p m F H _ Le.refl S (.int _)⟩)
  · cases r1 with
    | cons a b =>
      cases b
      cases a
      exact call_int1 pins s σ H _ us Q I r (.inr ⟨_, rfl, p m F H _ Le.refl S (.int _)⟩)
  · exact p.elim
def bAbs : List D → List O → R D := fun xs st => match xs with
  | [.int i] => .ok (.int (if i < 0 then -i else i)) st
  | _ => .no
theorem bd_abs : CallD T X (.builtin "abs") bAbs := by
  intro pins s σ H xs us Q I r h
  obtain ⟨G, m, F, st, ds, S, r1, p⟩ := h
  unfold bAbs at p
  split at p
  · cases r1 with
    | cons a b =>
      cases b
      cases a
      exact call_abs pins s σ H _ us Q I r ⟨_, rfl, p m F H _ Le.refl S (.int _)⟩
  · exact p.elim
def bMax2 : List D → List O → R D := fun xs st => match xs with
  | [.int i, .int j] => .ok (.int (if j > i then j else i)) st
  | _ => .no
def bMin2 : List D → List O → R D := fun xs st => match xs with
  | [.int i, .int j] => .ok (.int (if j < i then j else i)) st
  | _ => .no
theorem bd_max2 (hc : X.calm = true) : CallD T X (.builtin "max") bMax2 := by
  intro pins s σ H xs us Q I r h
  obtain ⟨G, m, F, st, ds, S, r1, p⟩ := h
  unfold bMax2 at p
  split at p
  · cases r1 with
    | cons a b =>
      cases b with
      | cons b c =>
        cases c
        cases a
        cases b
        exact call_max2 hc pins s σ H _ us Q I r ⟨_, _, rfl, p m F H _ Le.refl S (.int _)⟩
  · exact p.elim
theorem bd_min2 (hc : X.calm = true) : CallD T X (.builtin "min") bMin2 := by
  intro pins s σ H xs us Q I r h
  obtain ⟨G, m, F, st, ds, S, r1, p⟩ := h
  unfold bMin2 at p
  split at p
  · cases r1 with
    | cons a b =>
      cases b with
      | cons b c =>
        cases c
        cases a
        cases b
        exact call_min2 hc pins s σ H _ us Q I r ⟨_, _, rfl, p m F H _ Le.refl S (.int _)⟩
  · exact p.elim
def insI (x : Int) : List Int → List Int
  | [] => [x]
  | y :: r => if x ≤ y then x :: y :: r else y :: insI x r
def sortI : List Int → List Int
  | [] => []
  | x :: r => insI x (sortI r)
theorem insI_perm (x : Int) : ∀ l : List Int, (insI x l).Perm (x :: l)
  | [] => .refl _
  | y :: r => by
    unfold insI
    split
    · exact .refl _
    · exact ((insI_perm x r).cons y).trans (List.Perm.swap x y r)
theorem sortI_perm : ∀ l : List Int, (sortI l).Perm l
  | [] => .refl _
  | x :: r => (insI_perm x _).trans ((sortI_perm r).cons x)
theorem insI_sorted (x : Int) : ∀ l : List Int, l.Pairwise (· ≤ ·) → (insI x l).Pairwise (· ≤ ·)
  | [], _ => by simp [insI]
  | y :: r, h => by
    unfold insI
    rw [List.pairwise_cons] at h
    split
    · rename_i hx
      rw [List.pairwise_cons, List.pairwise_cons]
      refine ⟨fun z hz => ?_, h⟩
      rcases List.mem_cons.mp hz with rfl | hz
      · exact hx
      · exact Int.le_trans hx (h.1 z hz)
    · rename_i hx
      rw [List.pairwise_cons]
      refine ⟨fun z hz => ?_, insI_sorted x r h.2⟩
      rcases List.mem_cons.mp ((insI_perm x r).mem_iff.mp hz) with rfl | hz
      · omega
      · exact h.1 z hz
theorem sortI_sorted : ∀ l : List Int, (sortI l).Pairwise (· ≤ ·)
  | [] => .nil
  | x :: r => insI_sorted x _ (sortI_sorted r)
theorem sorted_one : ∀ {l l' : List Int}, l.Perm l' → l.Pairwise (· ≤ ·) → l'.Pairwise (· ≤ ·) → l = l'
  | [], l', p, _, _ => p.nil_eq
  | x :: r, [], p, _, _ => p.eq_nil
  | x :: r, y :: r', p, h, h' => by
    rw [List.pairwise_cons] at h h'
    have hxy : x = y := by
      have h1 : x ∈ y :: r' := p.mem_iff.mp List.mem_cons_self
      have h2 : y ∈ x :: r := p.mem_iff.mpr List.mem_cons_self
      rcases List.mem_cons.mp h1 with e | e
      · exact e
      · rcases List.mem_cons.mp h2 with e2 | e2
        · exact e2.symm
        · exact Int.le_antisymm (h.1 y e2) (h'.1 x e)
    subst hxy
    rw [sorted_one (List.perm_cons x |>.mp p) h.2 h'.2]
def bSorted : List D → List O → R D := fun xs st => match xs with
  | [d] => match lstOf d st with
    | some ys => match intsD ys with
      | some ns => .ok (.lst ((sortI ns).map D.int)) st
      | none => .no
    | none => .no
  | _ => .no
theorem bd_sorted (hK : X.K = T.K) : CallD T X (.builtin "sorted") bSorted := by
  intro pins s σ H xs us Q I r h
  obtain ⟨G, m, F, st, ds, S, r1, p⟩ := h
  unfold bSorted at p
  split at p
  · cases r1 with
    | cons a b =>
      cases b
      split at p
      · rename_i ys hy
        split at p
        · rename_i ns hn
          obtain ⟨q, vs, rfl, g1, g2⟩ := lstOf_rep S a hy
          have e := ints_rep g2 hn
          subst e
          refine cr_sortedI pins s σ H _ us Q I r ⟨q, ns, rfl, SqL.of g1, fun ns' l hp hs hl => ?_⟩
          have e2 : ns' = sortI ns := sorted_one (hp.trans (sortI_perm ns).symm) hs (sortI_sorted ns)
          subst e2
          obtain ⟨S2, l2, r2⟩ := S.newLst (ints_reps (ns := sortI ns)) hl
          exact p m _ _ _ l2 S2 r2
        · exact p.elim
      · exact p.elim
  · exact p.elim
end
end Den

namespace Den
open PySem PySem.Spec PyProof.Rows L2 RZ

/-! ### targets -/
abbrev DG := D → EV → List O → R EV
def wG (X : Cx) (tg : Expr) : TG := fun v σ H Q => ∀ (pins : List (Addr × Obj)) (s : Shared) (u : Value), Inv X pins σ H s → RelV v u → wpAny (model X.prog X.w) X.A (assign tg X.env u) (fun _ s' => ∃ σ' H', Inv X pins σ' H' s' ∧ Q σ' H') X.xe s
theorem pg_w {X : Cx} {tg : Expr} : PG X tg (wG X tg) := ⟨fun pins s σ H v u Q I r h => h pins s u I r⟩
/-- all slots but those at I are as they were -/
def Off (I : List Nat) (σ σ' : L2.St) : Prop := List.length σ' = List.length σ ∧ ∀ j : Nat, j ∉ I → σ'[j]? = σ[j]?
theorem Off.refl {I : List Nat} {σ : L2.St} : Off I σ σ := ⟨rfl, fun _ _ => rfl⟩
theorem Off.trans {I J : List Nat} {σ σ1 σ2 : L2.St} (a : Off I σ σ1) (b : Off J σ1 σ2) : Off (I ++ J) σ σ2 := ⟨b.1.trans a.1, fun j h => by
  rw [List.mem_append] at h
  rw [b.2 j fun z => h (.inr z), a.2 j fun z => h (.inl z)]⟩
/-- what is wanted behind a change of the names at I -/
def PostG (T : Tab) (X : Cx) (G : Frm) (m : List Addr) (F : Hp) (I : List Nat) (σ : L2.St) (r : R EV) (Q : L2.St → Hp → Prop) : Prop := match r with
  | .ok env st => ∀ m' F' H' σ', Le m F m' F' → At T X G m' st F' env σ' H' → Off I σ σ' → Q σ' H'
  | _ => False
structure SG (T : Tab) (X : Cx) (I : List Nat) (tg : Expr) (g : DG) : Prop where
  run : ∀ G m F env st σ H d v Q, At T X G m st F env σ H → Rep T m F d v → PostG T X G m F I σ (g d env st) Q → wG X tg v σ H Q
instance {T : Tab} {X : Cx} {I : List Nat} {tg : Expr} {g : DG} : CoeFun (SG T X I tg g) (fun _ => ∀ G m F env st σ H d v Q, At T X G m st F env σ H → Rep T m F d v → PostG T X G m F I σ (g d env st) Q → wG X tg v σ H Q) := ⟨SG.run⟩
section
variable {T : Tab} {X : Cx} {W : WX} {m m' : List Addr} {F F' H H' : Hp} {G : Frm} {st st' : List O}
def gNm (i : Nat) : DG := fun d env st => .ok (env.set i (some d)) st
theorem sg_name {i : Nat} {x : Str} {pos : Pos} (hN : X.N.Nodup) (hi : X.N[i]? = some x) (hx : Loc X.env.scope x) (hf : X.fn x = true ∨ X.env.scope.names.lookup x = some .local) : SG T X [i] (.Name x pos) (gNm i) := by
  refine ⟨?_⟩
  intro G m F env st σ H d v Q a r h pins s u I ru
  refine (pg_name hN hi hx hf).run pins s σ H v u Q I ru ?_
  exact h m F H _ Le.refl ⟨a.sim, a.evr.set i a.len r, by simp only [List.length_set]; exact a.len⟩ ⟨by simp, fun j hj => by
    rw [List.getElem?_set_ne (fun z => hj (by simp [z]))]⟩
/-- (a, b, ..) -/
abbrev DGs := List D → EV → List O → R EV
def gsNil : DGs := fun ds env st => match ds with
  | [] => .ok env st
  | _ => .no
def gsCons (g : DG) (gs : DGs) : DGs := fun ds env st => match ds with
  | d :: r => (g d env st).bind fun env' st' => gs r env' st'
  | [] => .no
def gTp (n : Nat) (gs : DGs) : DG := fun d env st => match d with
  | .tup ds => if ds.length = n then gs ds env st else .no
  | _ => .no
/-- several targets: their reading -/
structure SGs (T : Tab) (X : Cx) (I : List Nat) (tgs : List Expr) (gs : DGs) : Prop where
  ex : ∃ t : TGs, PGs X tgs t ∧ ∀ G m F env st σ H ds vs Q, At T X G m st F env σ H → Reps T m F ds vs → PostG T X G m F I σ (gs ds env st) Q → t vs σ H Q
theorem PostG.le {I : List Nat} {σ : L2.St} {r : R EV} {Q : L2.St → Hp → Prop} (h : PostG T X G m F I σ r Q) (l : Le m F m' F') : PostG T X G m' F' I σ r Q := by
  cases r with
  | ok a st => exact fun m2 F2 H2 b l2 => h m2 F2 H2 b (l.trans l2)
  | ex x st => exact h
  | no => exact h
theorem PostG.bind {I J : List Nat} {σ : L2.St} {r : R EV} {f : EV → List O → R EV} {Q Q' : L2.St → Hp → Prop} (h : PostG T X G m F (I ++ J) σ (r.bind f) Q)
    (k : ∀ m' F' H' σ' env' st', Le m F m' F' → At T X G m' st' F' env' σ' H' → PostG T X G m' F' J σ' (f env' st') Q → Q' σ' H') : PostG T X G m F I σ r Q' := by
  cases r with
  | ok env' st' =>
    intro m' F' H' σ' l a' o
    refine k m' F' H' σ' env' st' l a' ?_
    have h' : PostG T X G m F (I ++ J) σ (f env' st') Q := h
    generalize f env' st' = q at h'
    cases q with
    | ok e s => exact fun m2 F2 H2 σ2 l2 a2 o2 => h' m2 F2 H2 σ2 (l.trans l2) a2 (o.trans o2)
    | ex x s => exact h'
    | no => exact h'
  | ex x st' => exact h.elim
  | no => exact h.elim
theorem sgs_nil : SGs T X [] [] gsNil := ⟨_, pgs_nil, fun G m F env st σ H ds vs Q a r h => by
  cases r with
  | nil => exact ⟨rfl, h m F H σ Le.refl a Off.refl⟩
  | cons _ _ => exact h.elim⟩
theorem sgs_cons {I J : List Nat} {e : Expr} {es : List Expr} {g : DG} {gs : DGs} (h1 : SG T X I e g) (h2 : SGs T X J es gs)
    (hs : (assignEach (e :: es) X.env).map (·.2) = assign e X.env :: (assignEach es X.env).map (·.2) := by rfl) : SGs T X (I ++ J) (e :: es) (gsCons g gs) := by
  obtain ⟨t, hpt, ht⟩ := h2.ex
  refine ⟨_, pgs_cons (pg_w (X := X) (tg := e)) hpt hs, fun G m F env st σ H ds vs Q a r h => ?_⟩
  cases r with
  | nil => exact h.elim
  | cons r1 r2 =>
    rename_i d v ds vs
    refine ⟨v, vs, rfl, h1 _ m F env st σ H d v _ a r1 (PostG.bind (show PostG T X G m F (I ++ J) σ ((g d env st).bind fun env' st' => gs ds env' st') Q from h) fun m' F' H' σ' env' st' l a' h' => ?_)⟩
    exact ht _ m' F' env' st' σ' H' ds vs Q a' (Reps.le l r2) h'
theorem sg_tup {I : List Nat} {es : List Expr} {k : Nat} {pos : Pos} {gs : DGs} {n : Nat} (hK : X.K = T.K) (hc : X.calm = true) (h : SGs T X I es gs)
    (hn : (assignEach es X.env).length = n) (hst : (assignEach es X.env).findIdx? (·.1) = none) : SG T X I (.Tuple es k pos) (gTp n gs) := by
  obtain ⟨t, hpt, ht⟩ := h.ex
  refine ⟨?_⟩
  intro G m F env st σ H d v Q a r h pins s u II ru
  refine (pg_tup hc hpt hn hst).run pins s σ H v u Q II ru ?_
  cases r with
  | tup g1 g2 =>
    have h : PostG T X G m F I σ (if _ = n then _ else R.no) Q := h
    split at h
    · rename_i hl
      exact ⟨_, _, rfl, hK ▸ sqT_same a.sim.sub g1, by rw [← Reps.length g2]; exact hl, ht _ m F env st σ H _ _ Q a g2 h⟩
    · exact h.elim
  | _ => exact h.elim
/-- o[i] = v, in a list that changes -/
def gIx (o i : DE) : DG := fun d env st => (o env st).bind fun x st1 => (i env st1).bind fun y st2 => match x, y with
  | .cel n, .int k => match st2[n]? with
    | some (.lst xs) => match ixN xs.length k with
      | some j => .ok env (st2.set n (.lst (xs.set j d)))
      | none => .no
    | _ => .no
  | _, _ => .no
theorem Post.toG {I : List Nat} {σ : L2.St} {α β : Type} {Rp : List Addr → Hp → α → β → Prop} {r : R α} {f : α → List O → R EV} {Q : L2.St → Hp → Prop} {Q' : β → Hp → Prop} {E : XW} (h : PostG T X G m F I σ (r.bind f) Q)
    (k : ∀ m' F' H' a b st', Le m F m' F' → Sim T G m' st' F' H' → Rp m' F' a b → PostG T X G m' F' I σ (f a st') Q → Q' b H') : Post T Rp G m F r Q' E := by
  cases r with
  | ok a st' => exact fun m' F' H' b l S r => k m' F' H' a b st' l S r (PostG.le h l)
  | ex x st' => exact h.elim
  | no => exact h.elim
theorem Sim.setL {n : Nat} {p : Addr} {xs ys : List D} {vs : List V} (S : Sim T G m st F H) (hn : m[n]? = some p) (hx : st[n]? = some (.lst xs)) (r : Reps T m F ys vs) : Sim T G m (st.set n (.lst ys)) F (upd H p (.lst vs)) := by
  obtain ⟨ws, h1, h2, h3⟩ := S.cells _ _ _ hx hn
  exact S.write hn hx rfl rfl h1 lst_not_tbl lst_not_code ⟨vs, upd_same, r, h3⟩
theorem sg_ix {o i : Expr} {pos : Pos} {d1 d2 : DE} (ho : SE T X W o d1) (hi : SE T X W i d2) (hp : PG X (.Subscript o i pos) (gSub (wE X o) (wE X i) rSetL)) : SG T X [] (.Subscript o i pos) (gIx d1 d2) := by
  refine ⟨?_⟩
  intro G m F env st σ H d v Q a r h pins s u II ru
  refine hp.run pins s σ H v u Q II ru ?_
  refine ho _ m F env st σ H _ a (Post.toG h fun m1 F1 H1 x xv st1 l1 S1 r1 h1 => ?_)
  refine hi _ m1 F1 env st1 σ H1 _ (a.next l1 S1) (Post.toG h1 fun m2 F2 H2 y yv st2 l2 S2 r2 h2 => ?_)
  split at h2
  · rename_i n k
    cases r2
    have r1' := Rep.le l2 r1
    cases r1' with
    | cel hn =>
      split at h2
      · rename_i xs hx
        split at h2
        · rename_i j hj
          obtain ⟨ws, g1, g2, g3⟩ := S2.cells _ _ _ hx hn
          refine ⟨_, ws, k, j, rfl, rfl, g1, by rw [← Reps.length g2]; exact hj, ?_⟩
          have S3 := S2.setL hn hx (Reps.set (Rep.le (l1.trans l2) r) j g2)
          exact h2 m2 F2 _ σ Le.refl ((a.next l1 S1).next l2 S3) Off.refl
        · exact h2.elim
      · exact h2.elim
  · exact h2.elim

/-! ### what is walked -/
/-- the walk J gives ds, whatever is laid meanwhile -/
def YldG (T : Tab) (G : Frm) (J : It) (ds : List D) (m : List Addr) (F : Hp) : Prop := ∀ m' F' st' H', Le m F m' F' → Sim T G m' st' F' H' →
  (∀ (i : Nat) (d : D), ds[i]? = some d → J.go i H' ∧ ∀ x H2, J.yld i H' x H2 → ∃ F2, Le m' F' m' F2 ∧ Sim T G m' st' F2 H2 ∧ Rep T m' F2 d x) ∧ J.stop ds.length H'
def Yld (T : Tab) (J : It) (ds : List D) (m : List Addr) (F : Hp) : Prop := ∀ G, YldG T G J ds m F
theorem Yld.le {J : It} {ds : List D} (h : Yld T J ds m F) (l : Le m F m' F') : Yld T J ds m' F' := fun G m2 F2 st2 H2 l2 S2 => h G m2 F2 st2 H2 (l.trans l2) S2
def wI (X : Cx) (tg iter : Expr) : TI := fun σ H R => ∀ (pins : List (Addr × Obj)) (s : Shared), Inv X pins σ H s →
  wpAny (model X.prog X.w) X.A (eval iter X.env) (fun v s1 => wpAny (model X.prog X.w) X.A (pyIter v) (PIE X pins σ tg R) X.xe s1) X.xe s
theorem pi_w {tg iter : Expr} : PI X tg iter (wI X tg iter) := ⟨fun pins s σ H R I h => h pins s I⟩
/-- how the items are told: of what will be walked -/
def RY (T : Tab) : List Addr → Hp → List D → It → Prop := fun m F ds J => Yld T J ds m F
structure SI (T : Tab) (X : Cx) (W : WX) (tg iter : Expr) (d : DA) : Prop where
  run : ∀ G m F env st σ H R, At T X G m st F env σ H → Post T (RY T) G m F (d env st) R (fun c da H' => W c da σ H') → wI X tg iter σ H R
instance {T : Tab} {X : Cx} {W : WX} {tg iter : Expr} {d : DA} : CoeFun (SI T X W tg iter d) (fun _ => ∀ G m F env st σ H R, At T X G m st F env σ H → Post T (RY T) G m F (d env st) R (fun c da H' => W c da σ H') → wI X tg iter σ H R) := ⟨SI.run⟩
theorem yld_list {a : Addr} {vs : List V} {ds : List D} (h : F a = some (.lst vs)) (r : Reps T m F ds vs) : Yld T (Itl T.K a) ds m F := fun G m' F' st' H' l S => by
  have hl : SqL T.K H' a vs := SqL.of (S.sub _ _ (l.F _ _ h))
  have r' := Reps.le l r
  refine ⟨fun i d e => ?_, ⟨vs, hl, by rw [← Reps.length r]; exact Nat.le_refl _⟩⟩
  obtain ⟨v, h1, h2⟩ := r'.get e
  refine ⟨⟨vs, v, hl, h1⟩, fun x H2 y => ?_⟩
  obtain ⟨e2, y⟩ := y
  subst e2
  have e3 : v = x := Option.some.inj (h1.symm.trans (y vs hl))
  subst e3
  exact ⟨F', Le.refl, S, h2⟩
theorem yld_rol {a : Addr} {vs : List V} {ds : List D} (h : SqL T.K F a vs) (r : Reps T m F ds vs) : Yld T (Itl T.K a) ds m F := fun G m' F' st' H' l S => by
  have hl : SqL T.K H' a vs := S.sub.seq (l.F.seq h)
  have r' := Reps.le l r
  refine ⟨fun i d e => ?_, ⟨vs, hl, by rw [← Reps.length r]; exact Nat.le_refl _⟩⟩
  obtain ⟨v, h1, h2⟩ := r'.get e
  refine ⟨⟨vs, v, hl, h1⟩, fun x H2 y => ?_⟩
  obtain ⟨e2, y⟩ := y
  subst e2
  have e3 : v = x := Option.some.inj (h1.symm.trans (y vs hl))
  subst e3
  exact ⟨F', Le.refl, S, h2⟩
theorem yld_tup {a : Addr} {vs : List V} {ds : List D} (h : SqT T.K F a vs) (r : Reps T m F ds vs) : Yld T (Itt T.K a) ds m F := fun G m' F' st' H' l S => by
  have hl : SqT T.K H' a vs := sqT_same S.sub (sqT_same l.F h)
  have r' := Reps.le l r
  refine ⟨fun i d e => ?_, ⟨vs, hl, by rw [← Reps.length r]; exact Nat.le_refl _⟩⟩
  obtain ⟨v, h1, h2⟩ := r'.get e
  refine ⟨⟨vs, v, hl, h1⟩, fun x H2 y => ?_⟩
  obtain ⟨e2, y⟩ := y
  subst e2
  have e3 : v = x := Option.some.inj (h1.symm.trans (y vs hl))
  subst e3
  exact ⟨F', Le.refl, S, h2⟩
def iSeq (d : DE) : DA := fun env st => (d env st).bind fun x st1 => match x with
  | .tup ds => .ok ds st1
  | .lst ds => .ok ds st1
  | .rol ds => .ok ds st1
  | _ => .no
/-- an expression whose value is a list or a tuple that does not change -/
theorem si_seq {tg e : Expr} {d : DE} (hK : X.K = T.K) (he : SE T X W e d) : SI T X W tg e (iSeq d) := by
  refine ⟨?_⟩
  intro G m F env st σ H R at0 h pins s I
  have he0 := fun (Q : VK) => he G m F env st σ H Q at0
  unfold iSeq at h
  cases hq : d env st with
  | no => rw [hq] at h; exact h.elim
  | ex x st1 =>
    rw [hq] at h
    refine (pi_list (tg := tg) (pe_w (X := X) (e := e))).run pins s σ H R I (he0 _ ?_)
    rw [hq]
    exact h
  | ok x st1 =>
    rw [hq] at h
    cases x with
    | tup ds =>
      refine (pi_tup (tg := tg) (pe_w (X := X) (e := e))).run pins s σ H R I (he0 _ ?_)
      rw [hq]
      intro m1 F1 H1 v l1 S1 r1
      cases r1 with
      | tup g r => exact ⟨_, rfl, ⟨_, hK ▸ sqT_same S1.sub g⟩, by rw [hK]; exact h m1 F1 H1 _ l1 S1 (yld_tup g r)⟩
    | lst ds =>
      refine (pi_list (tg := tg) (pe_w (X := X) (e := e))).run pins s σ H R I (he0 _ ?_)
      rw [hq]
      intro m1 F1 H1 v l1 S1 r1
      cases r1 with
      | lst g r => exact ⟨_, rfl, ⟨_, SqL.of (S1.sub _ _ g)⟩, by rw [hK]; exact h m1 F1 H1 _ l1 S1 (yld_list g r)⟩
    | rol ds =>
      refine (pi_list (tg := tg) (pe_w (X := X) (e := e))).run pins s σ H R I (he0 _ ?_)
      rw [hq]
      intro m1 F1 H1 v l1 S1 r1
      cases r1 with
      | rol g r => exact ⟨_, rfl, ⟨_, by rw [hK]; exact S1.sub.seq g⟩, by rw [hK]; exact h m1 F1 H1 _ l1 S1 (yld_rol g r)⟩
    | _ => exact h.elim
/-- lo, lo + c, .. -/
def rngD (lo c : Int) : Nat → List D
  | 0 => []
  | n + 1 => .int lo :: rngD (lo + c) c n
theorem rngD_get : ∀ (n : Nat) (lo c : Int) (i : Nat), (rngD lo c n)[i]? = if i < n then some (.int (lo + (i : Nat) * c)) else none
  | 0, lo, c, i => by simp [rngD]
  | n + 1, lo, c, 0 => by simp [rngD]
  | n + 1, lo, c, i + 1 => by
    simp only [rngD, List.getElem?_cons_succ, rngD_get n, Nat.add_lt_add_iff_right]
    split
    · congr 2
      rw [Int.natCast_add, Int.add_mul, Int.natCast_one, Int.one_mul]
      omega
    · rfl
theorem rngD_len : ∀ (n : Nat) (lo c : Int), (rngD lo c n).length = n
  | 0, _, _ => rfl
  | n + 1, lo, c => congrArg (· + 1) (rngD_len n (lo + c) c)
theorem yld_rng {lo c : Int} {n : Nat} : Yld T (Itc lo c n) (rngD lo c n) m F := fun G m' F' st' H' l S => by
  refine ⟨fun i d e => ?_, by show n ≤ _; rw [rngD_len]; exact Nat.le_refl _⟩
  rw [rngD_get] at e
  split at e
  · rename_i hi
    cases e
    exact ⟨hi, fun x H2 y => by obtain ⟨rfl, rfl⟩ := y; exact ⟨F', Le.refl, S, .int _⟩⟩
  · cases e
theorem yld_rng1 {lo : Int} {n : Nat} : Yld T (Itr lo n) (rngD lo 1 n) m F := fun G m' F' st' H' l S => by
  refine ⟨fun i d e => ?_, by show n ≤ _; rw [rngD_len]; exact Nat.le_refl _⟩
  rw [rngD_get] at e
  split at e
  · rename_i hi
    cases e
    exact ⟨hi, fun x H2 y => by obtain ⟨rfl, rfl⟩ := y; rw [Int.mul_one]; exact ⟨F', Le.refl, S, .int _⟩⟩
  · cases e
def smallI (i : Int) : Bool := decide (-(2 ^ 62) ≤ i) && decide (i < 2 ^ 62)
theorem smallI_ok {i : Int} (h : smallI i = true) : -(2 ^ 62) ≤ i ∧ i < 2 ^ 62 := by
  unfold smallI at h
  simp only [Bool.and_eq_true, decide_eq_true_eq] at h
  exact h
def iRange1 (da : DA) : DA := fun env st => (da env st).bind fun xs st1 => match xs with
  | [.int j] => if smallI j then .ok (rngD 0 1 j.toNat) st1 else .no
  | _ => .no
def iRange2 (da : DA) : DA := fun env st => (da env st).bind fun xs st1 => match xs with
  | [.int i, .int j] => if smallI i && smallI j then .ok (rngD i 1 (j - i).toNat) st1 else .no
  | _ => .no
theorem si_range1 {tg a : Expr} {da : DA} {p pos : Pos} (hg : Gl X "range") (hm : X.mg "range" = none) (ha : SA T X W [a] da) (hs : starEach [a] X.env = [(false, eval a X.env)] := by exact star_of rfl) : SI T X W tg (.Call (.Name "range" p) [a] [] pos) (iRange1 da) := by
  refine ⟨?_⟩
  intro G m F env st σ H R at0 h pins s I
  refine (pi_range1 hg hm (pa_w (X := X) (es := [a])) hs).run pins s σ H R I ?_
  refine ha _ m F env st σ H _ at0 (Post.bind h fun xs st1 m1 F1 H1 vs e1 l1 S1 r1 h1 => ?_)
  split at h1
  · cases r1 with
    | cons a b =>
      cases b
      cases a
      split at h1
      · rename_i j hj
        obtain ⟨z1, z2⟩ := smallI_ok hj
        exact ⟨j, rfl, z1, z2, h1 m1 F1 H1 _ Le.refl S1 yld_rng1⟩
      · exact h1.elim
  · exact h1.elim
theorem si_range2 {tg a b : Expr} {da : DA} {p pos : Pos} (hg : Gl X "range") (hm : X.mg "range" = none) (ha : SA T X W [a, b] da) (hs : starEach [a, b] X.env = [(false, eval a X.env), (false, eval b X.env)] := by exact (star_of rfl).trans (congrArg _ (star_of rfl))) (hs2 : starEach [b] X.env = [(false, eval b X.env)] := by exact star_of rfl) : SI T X W tg (.Call (.Name "range" p) [a, b] [] pos) (iRange2 da) := by
  refine ⟨?_⟩
  intro G m F env st σ H R at0 h pins s I
  refine (pi_range2 hg hm (pa_w (X := X) (es := [a, b])) hs hs2).run pins s σ H R I ?_
  refine ha _ m F env st σ H _ at0 (Post.bind h fun xs st1 m1 F1 H1 vs e1 l1 S1 r1 h1 => ?_)
  split at h1
  · cases r1 with
    | cons a b =>
      cases b with
      | cons b c =>
        cases c
        cases a
        cases b
        split at h1
        · rename_i i j hij
          rw [Bool.and_eq_true] at hij
          obtain ⟨z1, z2⟩ := smallI_ok hij.1
          obtain ⟨z3, z4⟩ := smallI_ok hij.2
          exact ⟨i, j, rfl, ⟨z1, z2, z3, z4⟩, h1 m1 F1 H1 _ Le.refl S1 yld_rng1⟩
        · exact h1.elim
  · exact h1.elim
/-- enumerate of a list -/
def numD : Int → List D → List D
  | _, [] => []
  | k, d :: r => .tup [.int k, d] :: numD (k + 1) r
theorem numD_get : ∀ (ds : List D) (k : Int) (i : Nat), (numD k ds)[i]? = (ds[i]?).map fun d => .tup [.int (k + i), d]
  | [], _, _ => by simp [numD]
  | d :: r, k, 0 => by simp [numD]
  | d :: r, k, i + 1 => by
    simp only [numD, List.getElem?_cons_succ, numD_get r]
    cases r[i]? with
    | none => rfl
    | some x =>
      simp only [Option.map_some]
      have e : k + 1 + (i : Int) = k + ((i + 1 : Nat) : Int) := by omega
      rw [e]
theorem numD_len : ∀ (ds : List D) (k : Int), (numD k ds).length = ds.length
  | [], _ => rfl
  | d :: r, k => congrArg (· + 1) (numD_len r (k + 1))
theorem yld_enum {a : Addr} {vs : List V} {ds : List D} (h : SqL T.K F a vs) (r : Reps T m F ds vs) : Yld T (Ite T.K a) (numD 0 ds) m F := fun G m' F' st' H' l S => by
  have hl : SqL T.K H' a vs := S.sub.seq (l.F.seq h)
  have r' := Reps.le l r
  refine ⟨fun i d e => ?_, ⟨vs, hl, by rw [numD_len, ← Reps.length r]; exact Nat.le_refl _⟩⟩
  rw [numD_get] at e
  cases q : ds[i]? with
  | none => rw [q] at e; cases e
  | some d0 =>
    rw [q] at e
    cases e
    obtain ⟨v, h1, h2⟩ := r'.get q
    refine ⟨⟨vs, v, hl, h1⟩, fun x H2 y => ?_⟩
    obtain ⟨A, z, rfl, hA, rfl, hz⟩ := y
    have e3 : v = z := Option.some.inj (h1.symm.trans (hz vs hl))
    subst e3
    obtain ⟨S2, l2, r2⟩ := S.newTup (ds := [.int (0 + (i : Nat)), d0]) (vs := [.int (i : Nat), v]) (.cons (by rw [Int.zero_add]; exact .int _) (.cons h2 .nil)) hA
    exact ⟨_, l2, S2, r2⟩
def iEnumL (da : DA) : DA := fun env st => (da env st).bind fun xs st1 => match xs with
  | [.lst ds] => .ok (numD 0 ds) st1
  | [.rol ds] => .ok (numD 0 ds) st1
  | _ => .no
theorem si_enum {e : Expr} {da : DA} {p pos tpos : Pos} {elts : List Expr} {kk : Nat} (hK : X.K = T.K) (hg : Gl X "enumerate") (hm : X.mg "enumerate" = none) (ha : SA T X W [e] da) (hs : starEach [e] X.env = [(false, eval e X.env)] := by exact star_of rfl) : SI T X W (.Tuple elts kk tpos) (.Call (.Name "enumerate" p) [e] [] pos) (iEnumL da) := by
  refine ⟨?_⟩
  intro G m F env st σ H R at0 h pins s I
  refine (pi_enum hg hm (pa_w (X := X) (es := [e])) hs).run pins s σ H R I ?_
  refine ha _ m F env st σ H _ at0 (Post.bind h fun xs st1 m1 F1 H1 vs e1 l1 S1 r1 h1 => ?_)
  split at h1
  · cases r1 with
    | cons a b =>
      cases b
      cases a with
      | lst g r => exact ⟨_, _, rfl, SqL.of (S1.sub _ _ g), by rw [hK]; exact h1 m1 F1 H1 _ Le.refl S1 (yld_enum (SqL.of g) r)⟩
  · cases r1 with
    | cons a b =>
      cases b
      cases a with
      | rol g r => exact ⟨_, _, rfl, by rw [hK]; exact S1.sub.seq g, by rw [hK]; exact h1 m1 F1 H1 _ Le.refl S1 (yld_enum g r)⟩
  · exact h1.elim
/-- zip of two lists, of two tuples -/
def zipD : List D → List D → List D
  | x :: xs, y :: ys => .tup [x, y] :: zipD xs ys
  | _, _ => []
theorem zipD_get : ∀ (xs ys : List D) (i : Nat) (d : D), (zipD xs ys)[i]? = some d → ∃ x y, xs[i]? = some x ∧ ys[i]? = some y ∧ d = .tup [x, y]
  | [], _, _, _, e => by simp [zipD] at e
  | x :: xs, [], _, _, e => by simp [zipD] at e
  | x :: xs, y :: ys, 0, d, e => by simp [zipD] at e; exact ⟨x, y, rfl, rfl, e.symm⟩
  | x :: xs, y :: ys, i + 1, d, e => by
    simp only [zipD, List.getElem?_cons_succ] at e
    obtain ⟨a, b, h1, h2, h3⟩ := zipD_get xs ys i d e
    exact ⟨a, b, by simpa using h1, by simpa using h2, h3⟩
theorem zipD_len : ∀ (xs ys : List D), xs.length ≤ (zipD xs ys).length ∨ ys.length ≤ (zipD xs ys).length
  | [], _ => .inl (Nat.le_refl _)
  | x :: xs, [] => .inr (Nat.le_refl _)
  | x :: xs, y :: ys => (zipD_len xs ys).imp (fun h => Nat.succ_le_succ h) (fun h => Nat.succ_le_succ h)
theorem yld_zip {a b : Addr} {vs ws : List V} {ds es : List D} (h : SqL T.K F a vs) (h' : SqL T.K F b ws) (r : Reps T m F ds vs) (r' : Reps T m F es ws) : Yld T (Itz T.K a b) (zipD ds es) m F := fun G m' F' st' H' l S => by
  have ha : SqL T.K H' a vs := S.sub.seq (l.F.seq h)
  have hb : SqL T.K H' b ws := S.sub.seq (l.F.seq h')
  have ra := Reps.le l r
  have rb := Reps.le l r'
  refine ⟨fun i d e => ?_, ⟨vs, ws, ha, hb, by rw [← Reps.length r, ← Reps.length r']; exact zipD_len ds es⟩⟩
  obtain ⟨x, y, h1, h2, h3⟩ := zipD_get ds es i d e
  subst h3
  obtain ⟨v, g1, g2⟩ := ra.get h1
  obtain ⟨u, g3, g4⟩ := rb.get h2
  refine ⟨⟨vs, ws, v, u, ha, hb, g1, g3⟩, fun z H2 q => ?_⟩
  obtain ⟨A, z1, z2, rfl, hA, rfl, q1, q2⟩ := q
  have e1 : v = z1 := Option.some.inj (g1.symm.trans (q1 vs ha))
  have e2 : u = z2 := Option.some.inj (g3.symm.trans (q2 ws hb))
  subst e1 e2
  obtain ⟨S2, l2, r2⟩ := S.newTup (.cons g2 (.cons g4 .nil)) hA
  exact ⟨_, l2, S2, r2⟩
theorem yld_zipT {a b : Addr} {vs ws : List V} {ds es : List D} (h : SqT T.K F a vs) (h' : SqT T.K F b ws) (r : Reps T m F ds vs) (r' : Reps T m F es ws) : Yld T (ItzT T.K a b) (zipD ds es) m F := fun G m' F' st' H' l S => by
  have ha : SqT T.K H' a vs := sqT_same S.sub (sqT_same l.F h)
  have hb : SqT T.K H' b ws := sqT_same S.sub (sqT_same l.F h')
  have ra := Reps.le l r
  have rb := Reps.le l r'
  refine ⟨fun i d e => ?_, ⟨vs, ws, ha, hb, by rw [← Reps.length r, ← Reps.length r']; exact zipD_len ds es⟩⟩
  obtain ⟨x, y, h1, h2, h3⟩ := zipD_get ds es i d e
  subst h3
  obtain ⟨v, g1, g2⟩ := ra.get h1
  obtain ⟨u, g3, g4⟩ := rb.get h2
  refine ⟨⟨vs, ws, v, u, ha, hb, g1, g3⟩, fun z H2 q => ?_⟩
  obtain ⟨A, z1, z2, rfl, hA, rfl, q1, q2⟩ := q
  have e1 : v = z1 := Option.some.inj (g1.symm.trans (q1 vs ha))
  have e2 : u = z2 := Option.some.inj (g3.symm.trans (q2 ws hb))
  subst e1 e2
  obtain ⟨S2, l2, r2⟩ := S.newTup (.cons g2 (.cons g4 .nil)) hA
  exact ⟨_, l2, S2, r2⟩
def iZipD (da : DA) : DA := fun env st => (da env st).bind fun xs st1 => match xs with
  | [.lst ds, .lst es] => .ok (zipD ds es) st1
  | [.tup ds, .tup es] => .ok (zipD ds es) st1
  | _ => .no
theorem si_zip {e e2 : Expr} {da : DA} {p pos tpos : Pos} {elts : List Expr} {kk : Nat} (hK : X.K = T.K) (hg : Gl X "zip") (hm : X.mg "zip" = none) (ha : SA T X W [e, e2] da)
    (hs : starEach [e, e2] X.env = (false, eval e X.env) :: starEach [e2] X.env := by exact star_of rfl) (hpl : (backTo pos (starEach [e2] X.env)).any (·.1) = false := by exact hpl_of rfl) : SI T X W (.Tuple elts kk tpos) (.Call (.Name "zip" p) [e, e2] [] pos) (iZipD da) := by
  refine ⟨?_⟩
  intro G m F env st σ H R at0 h pins s I
  refine (pi_zipA hg hm (pa_w (X := X) (es := [e, e2])) hs hpl).run pins s σ H R I ?_
  refine ha _ m F env st σ H _ at0 (Post.bind h fun xs st1 m1 F1 H1 vs e1 l1 S1 r1 h1 => ?_)
  split at h1
  · cases r1 with
    | cons a b =>
      cases b with
      | cons b c =>
        cases c
        cases a with
        | lst g r =>
          cases b with
          | lst g' r' => exact ⟨_, _, _, _, rfl, .inl ⟨SqL.of (S1.sub _ _ g), SqL.of (S1.sub _ _ g'), by rw [hK]; exact h1 m1 F1 H1 _ Le.refl S1 (yld_zip (SqL.of g) (SqL.of g') r r')⟩⟩
  · cases r1 with
    | cons a b =>
      cases b with
      | cons b c =>
        cases c
        cases a with
        | tup g r =>
          cases b with
          | tup g' r' => exact ⟨_, _, _, _, rfl, .inr ⟨by rw [hK]; exact sqT_same S1.sub g, by rw [hK]; exact sqT_same S1.sub g', by rw [hK]; exact h1 m1 F1 H1 _ Le.refl S1 (yld_zipT g g' r r')⟩⟩
  · exact h1.elim
/-! ### lists that may change are lent to a loop -/
inductive Lents (T : Tab) (L : Addr → Option HO) (m : List Addr) (F : Hp) : List Nat → List (List D) → Prop
  | nil : Lents T L m F [] []
  | cons {n : Nat} {p : Addr} {vs : List V} {xs : List D} {ns : List Nat} {xss : List (List D)} : m[n]? = some p → L p = some (.lst vs) → Reps T m F xs vs → Lents T L m F ns xss → Lents T L m F (n :: ns) (xs :: xss)
def lendS : List Nat → List O → Option (List O × List (Nat × List D) × List (List D))
  | [], st => some (st, [], [])
  | n :: r, st => match st[n]? with
    | some (.lst xs) => match lendS r (st.set n (.lent xs)) with
      | some (st', us, xss) => some (st', (n, xs) :: us, xs :: xss)
      | none => none
    | some (.lent xs) => match lendS r st with
      | some (st', us, xss) => some (st', us, xs :: xss)
      | none => none
    | _ => none
def unlendS : List (Nat × List D) → List O → List O
  | [], st => st
  | (n, xs) :: r, st => (unlendS r st).set n (.lst xs)
theorem Sim.lends : ∀ {ns : List Nat} {G : Frm} {st st' : List O} {us : List (Nat × List D)} {xss : List (List D)}, Sim T G m st F H → lendS ns st = some (st', us, xss) →
    ∃ L, Sim T ⟨G.g, L⟩ m st' F H ∧ Same G.l L ∧ Lents T L m F ns xss ∧ ∀ g m' F' H' st2, Le m F m' F' → Sim T ⟨g, L⟩ m' st2 F' H' → Sim T ⟨g, G.l⟩ m' (unlendS us st2) F' H'
  | [], G, st, st', us, xss, S, e => by
    simp only [lendS, Option.some.injEq, Prod.mk.injEq] at e
    obtain ⟨rfl, rfl, rfl⟩ := e
    exact ⟨G.l, S, Same.refl _, .nil, fun g m' F' H' st2 l S2 => S2⟩
  | n :: r, G, st, st', us, xss, S, e => by
    simp only [lendS] at e
    cases q : st[n]? with
    | none => rw [q] at e; cases e
    | some o =>
      have hlen : n < m.length := by rw [← S.len]; exact (List.getElem?_eq_some_iff.mp q).1
      have hn : m[n]? = some m[n] := List.getElem?_eq_getElem hlen
      cases o with
      | lst xs =>
        rw [q] at e
        simp only at e
        cases q2 : lendS r (st.set n (.lent xs)) with
        | none => rw [q2] at e; cases e
        | some y =>
          obtain ⟨s2, u2, x2⟩ := y
          rw [q2] at e
          simp only [Option.some.injEq, Prod.mk.injEq] at e
          obtain ⟨rfl, rfl, rfl⟩ := e
          obtain ⟨vs, g1, g2, g3⟩ := S.cells _ _ _ q hn
          obtain ⟨L, h1, h2, h3, h5⟩ := Sim.lends (S.lend hn q g1 g2) q2
          have lp := S.glr n _ _ hn q rfl
          refine ⟨L, h1, fun b w z => h2 b w ?_, .cons hn (h2 _ _ upd_same) g2 h3, fun g m' F' H' st2 l S2 => ?_⟩
          · show upd G.l _ _ b = some w
            rw [upd_ne (ne_of_none z lp)]
            exact z
          · have S3 : Sim T (Frm.lend ⟨g, G.l⟩ _ _) _ _ _ _ := h5 g m' F' H' st2 l S2
            have hn' := l.m _ _ hn
            have hl3 : n < (unlendS u2 st2).length := by rw [S3.len]; exact (List.getElem?_eq_some_iff.mp hn').1
            exact S3.unlend hn' lp (S3.cells n _ _ (List.getElem?_eq_getElem hl3) hn').fr (Reps.le l g2)
      | ins c fs => rw [q] at e; cases e
      | lent xs =>
        rw [q] at e
        simp only at e
        cases q2 : lendS r st with
        | none => rw [q2] at e; cases e
        | some y =>
          obtain ⟨s2, u2, x2⟩ := y
          rw [q2] at e
          simp only [Option.some.injEq, Prod.mk.injEq] at e
          obtain ⟨rfl, rfl, rfl⟩ := e
          obtain ⟨vs, g1, g2⟩ := S.lnt n _ xs q hn
          obtain ⟨L, h1, h2, h3, h5⟩ := Sim.lends S q2
          exact ⟨L, h1, h2, .cons hn (h2 _ _ g1) g2 h3, h5⟩
theorem Lents.le {L : Addr → Option HO} (l : Le m F m' F') : ∀ {ns : List Nat} {xss : List (List D)}, Lents T L m F ns xss → Lents T L m' F' ns xss
  | _, _, .nil => .nil
  | _, _, .cons h1 h2 h3 h4 => .cons (l.m _ _ h1) h2 (Reps.le l h3) (h4.le l)
/-- what will be walked: the lists that are lent, what is made of their items -/
abbrev IW := List Nat × (List (List D) → List D)
abbrev DJ := EV → List O → R IW
def RJ (T : Tab) : List Addr → Hp → IW → It → Prop := fun m F w J => ∀ G xss, Lents T G.l m F w.1 xss → YldG T G J (w.2 xss) m F
structure SJ (T : Tab) (X : Cx) (W : WX) (tg iter : Expr) (d : DJ) : Prop where
  run : ∀ G m F env st σ H R, At T X G m st F env σ H → Post T (RJ T) G m F (d env st) R (fun c da H' => W c da σ H') → wI X tg iter σ H R
instance {T : Tab} {X : Cx} {W : WX} {tg iter : Expr} {d : DJ} : CoeFun (SJ T X W tg iter d) (fun _ => ∀ G m F env st σ H R, At T X G m st F env σ H → Post T (RJ T) G m F (d env st) R (fun c da H' => W c da σ H') → wI X tg iter σ H R) := ⟨SJ.run⟩
def jI (d : DA) : DJ := fun env st => (d env st).bind fun ds st1 => .ok ([], fun _ => ds) st1
/-- what stands still is walked as it is -/
theorem sj_of {tg iter : Expr} {d : DA} (h : SI T X W tg iter d) : SJ T X W tg iter (jI d) := ⟨fun G m F env st σ H R at0 p =>
  h G m F env st σ H R at0 (Post.bind p fun ds st1 m1 F1 H1 J e1 l1 S1 r1 p1 => p1 m1 F1 H1 J Le.refl S1 fun G xss _ => r1 G)⟩
theorem yld_lent {G : Frm} {a : Addr} {vs : List V} {ds : List D} (h : G.l a = some (.lst vs)) (r : Reps T m F ds vs) : YldG T G (Itl T.K a) ds m F := fun m' F' st' H' l S => by
  have hl : SqL T.K H' a vs := SqL.of (S.frl _ _ h)
  have r' := Reps.le l r
  refine ⟨fun i d e => ?_, ⟨vs, hl, by rw [← Reps.length r]; exact Nat.le_refl _⟩⟩
  obtain ⟨v, h1, h2⟩ := r'.get e
  refine ⟨⟨vs, v, hl, h1⟩, fun x H2 y => ?_⟩
  obtain ⟨e2, y⟩ := y
  subst e2
  have e3 : v = x := Option.some.inj (h1.symm.trans (y vs hl))
  subst e3
  exact ⟨F', Le.refl, S, h2⟩
def fst1 : List (List D) → List D
  | [xs] => xs
  | _ => []
def isLstO : Option O → Bool
  | some (.lst _) => true
  | some (.lent _) => true
  | _ => false
def jSeq (d : DE) : DJ := fun env st => (d env st).bind fun x st1 => match x with
  | .tup ds => .ok ([], fun _ => ds) st1
  | .lst ds => .ok ([], fun _ => ds) st1
  | .rol ds => .ok ([], fun _ => ds) st1
  | .cel n => if isLstO st1[n]? then .ok ([n], fst1) st1 else .no
  | _ => .no
theorem sj_seq {tg e : Expr} {d : DE} (hK : X.K = T.K) (he : SE T X W e d) : SJ T X W tg e (jSeq d) := by
  refine ⟨?_⟩
  intro G m F env st σ H R at0 h pins s I
  have he0 := fun (Q : VK) => he G m F env st σ H Q at0
  unfold jSeq at h
  cases hq : d env st with
  | no => rw [hq] at h; exact h.elim
  | ex x st1 =>
    rw [hq] at h
    refine (pi_list (tg := tg) (pe_w (X := X) (e := e))).run pins s σ H R I (he0 _ ?_)
    rw [hq]
    exact h
  | ok x st1 =>
    rw [hq] at h
    cases x with
    | tup ds =>
      refine (pi_tup (tg := tg) (pe_w (X := X) (e := e))).run pins s σ H R I (he0 _ ?_)
      rw [hq]
      intro m1 F1 H1 v l1 S1 r1
      cases r1 with
      | tup g r => exact ⟨_, rfl, ⟨_, hK ▸ sqT_same S1.sub g⟩, by rw [hK]; exact h m1 F1 H1 _ l1 S1 fun G _ _ => yld_tup g r G⟩
    | lst ds =>
      refine (pi_list (tg := tg) (pe_w (X := X) (e := e))).run pins s σ H R I (he0 _ ?_)
      rw [hq]
      intro m1 F1 H1 v l1 S1 r1
      cases r1 with
      | lst g r => exact ⟨_, rfl, ⟨_, SqL.of (S1.sub _ _ g)⟩, by rw [hK]; exact h m1 F1 H1 _ l1 S1 fun G _ _ => yld_list g r G⟩
    | rol ds =>
      refine (pi_list (tg := tg) (pe_w (X := X) (e := e))).run pins s σ H R I (he0 _ ?_)
      rw [hq]
      intro m1 F1 H1 v l1 S1 r1
      cases r1 with
      | rol g r => exact ⟨_, rfl, ⟨_, by rw [hK]; exact S1.sub.seq g⟩, by rw [hK]; exact h m1 F1 H1 _ l1 S1 fun G _ _ => yld_rol g r G⟩
    | cel n =>
      refine (pi_list (tg := tg) (pe_w (X := X) (e := e))).run pins s σ H R I (he0 _ ?_)
      rw [hq]
      intro m1 F1 H1 v l1 S1 r1
      have h : Post T (RJ T) G m F (if isLstO st1[n]? = true then Den.R.ok ([n], fst1) st1 else .no) R (fun c da H' => W c da σ H') := h
      split at h
      · rename_i hc
        cases r1 with
        | cel hn =>
          rename_i p
          have hl : ∃ vs, H1 p = some (.lst vs) := by
            cases q : st1[n]? with
            | none => rw [q] at hc; cases hc
            | some o =>
              cases o with
              | lst xs => obtain ⟨vs, g1, _⟩ := S1.cells _ _ _ q hn; exact ⟨vs, g1⟩
              | lent xs => obtain ⟨vs, g1, _⟩ := S1.cells _ _ _ q hn; exact ⟨vs, g1⟩
              | ins c fs => rw [q] at hc; cases hc
          obtain ⟨vs, hl⟩ := hl
          have hj : RJ T m1 F1 ([n], fst1) (Itl T.K p) := fun G xss le => by
            cases le with
            | cons z1 z2 z3 z4 =>
              cases z4
              have e1 := Option.some.inj (z1.symm.trans hn)
              subst e1
              exact yld_lent z2 z3
          exact ⟨_, rfl, ⟨_, SqL.of hl⟩, by rw [hK]; exact h m1 F1 H1 _ l1 S1 hj⟩
      · exact h.elim
    | _ => exact h.elim
end
end Den

namespace Den
open PySem PySem.Spec PyProof.Rows L2 RZ
section
variable {T : Tab} {X : Cx} {W : WX} {m m' : List Addr} {F F' H H' : Hp} {G : Frm} {st st' : List O}

/-! ### list comprehensions -/
/-- the denotation as a reading: it does not hang on the context -/
def tD (T : Tab) (W : WX) (d : DE) : TE := fun σ H Q => ∃ G m F env st, (Sim T G m st F H ∧ EnvR T m F env σ ∧ env.length ≤ List.length σ) ∧ Post T (RV T) G m F (d env st) Q (fun c da H' => W c da σ H')
theorem SE.pe {e : Expr} {d : DE} (h : SE T X W e d) : PE X e (tD T W d) := ⟨fun pins s σ H Q I ⟨G, m, F, env, st, a, p⟩ => h G m F env st σ H Q ⟨a.1, a.2.1, a.2.2⟩ p pins s I⟩
def tDT (T : Tab) (W : WX) (d : DT) : TT := fun σ H Q => ∃ G m F env st, (Sim T G m st F H ∧ EnvR T m F env σ ∧ env.length ≤ List.length σ) ∧ Post T RB G m F (d env st) Q (fun c da H' => W c da σ H')
theorem ST.pt {e : Expr} {d : DT} (h : ST T X W e d) : PT X e (tDT T W d) := ⟨fun pins s σ H Q I ⟨G, m, F, env, st, a, p⟩ => h G m F env st σ H Q ⟨a.1, a.2.1, a.2.2⟩ p pins s I⟩
def tDG (T : Tab) (I : List Nat) (g : DG) : TG := fun v σ H Q => ∃ G m F env st d, (Sim T G m st F H ∧ EnvR T m F env σ ∧ env.length ≤ List.length σ) ∧ Rep T m F d v ∧
  (match g d env st with
  | .ok env' st' => ∀ m' F' H' σ', Le m F m' F' → (Sim T G m' st' F' H' ∧ EnvR T m' F' env' σ' ∧ env'.length ≤ List.length σ') → Off I σ σ' → Q σ' H'
  | _ => False)
theorem SG.pg {I : List Nat} {e : Expr} {g : DG} (h : SG T X I e g) : PG X e (tDG T I g) := ⟨fun pins s σ H v u Q II ru ⟨G, m, F, env, st, d, a, r, p⟩ => h G m F env st σ H d v Q ⟨a.1, a.2.1, a.2.2⟩ r (by
  unfold PostG
  cases q : g d env st with
  | ok env' st' =>
    rw [q] at p
    exact fun m' F' H' σ' l a' o => p m' F' H' σ' l ⟨a'.sim, a'.evr, a'.len⟩ o
  | ex x st' => rw [q] at p; exact p
  | no => rw [q] at p; exact p) pins s u II ru⟩
def wipeD (env : EV) : List Nat → EV
  | [] => env
  | v :: vs => (wipeD env vs).set v none
theorem wipeD_len (env : EV) : ∀ vs : List Nat, (wipeD env vs).length = env.length
  | [] => rfl
  | v :: vs => by rw [wipeD, List.length_set, wipeD_len env vs]
theorem wipe_get (σ : L2.St) : ∀ (vs : List Nat) (j : Nat), (wipe σ vs)[j]? = if j ∈ vs then (σ[j]?).map fun _ => none else σ[j]?
  | [], j => by simp [wipe]
  | v :: vs, j => by
    unfold wipe
    rw [List.getElem?_set, wipe_get σ vs j]
    by_cases hv : v = j
    · subst hv
      rw [if_pos rfl, if_pos List.mem_cons_self, wipe_length]
      by_cases hl : v < List.length σ
      · rw [if_pos hl, List.getElem?_eq_getElem hl]; rfl
      · rw [if_neg hl, List.getElem?_eq_none (Nat.le_of_not_lt hl)]; rfl
    · rw [if_neg hv]
      by_cases hm : j ∈ vs
      · rw [if_pos hm, if_pos (List.mem_cons_of_mem _ hm)]
      · rw [if_neg hm, if_neg (fun z => (List.mem_cons.mp z).elim (fun e => hv e.symm) hm)]
theorem wipeD_get (env : EV) : ∀ (vs : List Nat) (j : Nat), (wipeD env vs)[j]? = if j ∈ vs then (env[j]?).map fun _ => none else env[j]?
  | [], j => by simp [wipeD]
  | v :: vs, j => by
    unfold wipeD
    rw [List.getElem?_set, wipeD_get env vs j]
    by_cases hv : v = j
    · subst hv
      rw [if_pos rfl, if_pos List.mem_cons_self, wipeD_len]
      by_cases hl : v < env.length
      · rw [if_pos hl, List.getElem?_eq_getElem hl]; rfl
      · rw [if_neg hl, List.getElem?_eq_none (Nat.le_of_not_lt hl)]; rfl
    · rw [if_neg hv]
      by_cases hm : j ∈ vs
      · rw [if_pos hm, if_pos (List.mem_cons_of_mem _ hm)]
      · rw [if_neg hm, if_neg (fun z => (List.mem_cons.mp z).elim (fun e => hv e.symm) hm)]
theorem wipe_off {I vs : List Nat} {σ σ' : L2.St} (o : Off I (wipe σ vs) σ') (h : ∀ i ∈ I, i ∈ vs) : wipe σ' vs = wipe σ vs := by
  have hl : List.length σ' = List.length σ := by rw [o.1, wipe_length]
  apply List.ext_getElem?
  intro j
  rw [wipe_get, wipe_get]
  by_cases hj : j ∈ vs
  · rw [if_pos hj, if_pos hj]
    by_cases hjl : j < List.length σ
    · rw [List.getElem?_eq_getElem hjl, List.getElem?_eq_getElem (by rw [hl]; exact hjl)]; rfl
    · rw [List.getElem?_eq_none (Nat.le_of_not_lt hjl), List.getElem?_eq_none (by rw [hl]; exact Nat.le_of_not_lt hjl)]
  · rw [if_neg hj, if_neg hj, o.2 j fun z => hj (h j z), wipe_get, if_neg hj]
theorem EnvR.wipe {env : EV} {σ : L2.St} {vs : List Nat} (h : EnvR T m F env σ) : EnvR T m F (wipeD env vs) (L2.wipe σ vs) := fun j d e => by
  rw [wipeD_get] at e
  rw [wipe_get]
  by_cases hj : j ∈ vs
  · rw [if_pos hj] at e
    cases q : env[j]? with
    | none => rw [q] at e; cases e
    | some o => rw [q] at e; cases e
  · rw [if_neg hj] at e ⊢
    exact h j d e
/-- the elements, one by one -/
def lcGo (g : DG) (t : DT) (d : DE) (env : EV) : List D → List O → R (List D)
  | [], st => .ok [] st
  | x :: r, st => match g x env st with
    | .ok env' st1 => match (t env' st1).calm with
      | .ok b st2 => if b = true then match (d env' st2).calm with
          | .ok y st3 => match lcGo g t d env r st3 with
            | .ok ys st4 => .ok (y :: ys) st4
            | _ => .no
          | _ => .no
        else lcGo g t d env r st2
      | _ => .no
    | _ => .no
def dYes : DT := fun _ st => .ok true st
/-- the walk, with what it lends -/
def lcAll (vs : List Nat) (g : DG) (t : DT) (d : DE) (k : List D → List O → R D) (env : EV) : IW → List O → R D := fun w st => match lendS w.1 st with
  | some (st1, us, xss) => if (w.2 xss).length ≤ sizeLine then match lcGo g t d (wipeD env vs) (w.2 xss) st1 with
    | .ok ys st2 => k ys (unlendS us st2)
    | _ => .no else .no
  | none => .no
def kLst : List D → List O → R D := fun ys st => .ok (.lst ys) st
def kCel : List D → List O → R D := fun ys st => .ok (.cel st.length) (st ++ [.lst ys])
def dLc (vs : List Nat) (it : DJ) (g : DG) (t : DT) (d : DE) : DE := fun env st => (it env st).bind (lcAll vs g t d kLst env)
/-- .. made as a list that will change -/
def dLcC (vs : List Nat) (it : DJ) (g : DG) (t : DT) (d : DE) : DE := fun env st => (it env st).bind (lcAll vs g t d kCel env)
abbrev W0 : WX := fun _ _ _ _ => False
/-- tests of a comprehension: none, or one -/
def SPt (T : Tab) (X : Cx) (ifs : List Expr) (t : DT) : Prop := PTs X ifs (tDT T W0 t)
theorem spt_nil : SPt T X [] dYes := ⟨fun pins s σ H Q I h => by
  obtain ⟨G, m, F, env, st, a, p⟩ := h
  exact pts_nil.run pins s σ H Q I (p m F H true Le.refl a.1 rfl)⟩
theorem spt_one {c : Expr} {t : DT} (h : ST T X W0 c t) : SPt T X [c] t := pts_one h.pt
/-- a new object beside all that the evaluator knows -/
theorem Sim.beside {p : Addr} {o : HO} (S : Sim T G m st F H) (hp : H p = none) (ho : Plain o := by exact .inl ⟨_, rfl⟩) : Sim T (G.put p o) m st F (upd H p o) := by
  have np : ∀ (n : Nat) (a : Addr), m[n]? = some a → a ≠ p := fun n a e => by
    obtain ⟨u, h⟩ := S.there n a e
    exact ne_of_none h hp
  have S1 := S.same (same_upd (o := o) hp)
  refine { S1 with frm := fun b u e => ?ca, gfr := fun n a e => ?cd, gF := fun b u e => ?cb, gl := fun b u e => ?ce, gnt := fun b ps e => ?cc }
  case ca =>
    have e : upd G.g p o b = some u := e
    by_cases hb : b = p
    · subst hb; rw [upd_same] at e ⊢; exact e
    · rw [upd_ne hb] at e ⊢; exact S.frm b u e
  case cb =>
    have e : upd G.g p o b = some u := e
    by_cases hb : b = p
    · subst hb; exact S.sub.free hp
    · rw [upd_ne hb] at e; exact S.gF b u e
  case cc =>
    have e : upd G.g p o b = some ps := e
    by_cases hb : b = p
    · subst hb; rw [upd_same] at e; cases e; exact ho
    · rw [upd_ne hb] at e; exact S.gnt b ps e
  case cd =>
    show upd G.g p o a = none
    rw [upd_ne (np n a e)]
    exact S.gfr n a e
  case ce =>
    have e : upd G.g p o b = some u := e
    show G.l b = none
    by_cases hb : b = p
    · subst hb; exact S.frl.free hp
    · rw [upd_ne hb] at e; exact S.gl b u e
theorem put_ne {m : List Addr} {p : Addr} {o : HO} (S : Sim T (G.put p o) m st F H) : ∀ (n : Nat) (a : Addr), m[n]? = some a → a ≠ p := fun n a e z => by
  have h : upd G.g p o a = none := S.gfr n a e
  rw [z, upd_same] at h
  cases h
/-- it is changed -/
theorem Sim.besideSet {p : Addr} {ws ws' : List V} (S : Sim T (G.put p (.lst ws)) m st F H) : Sim T (G.put p (.lst ws')) m st F (upd H p (.lst ws')) := by
  have fp : F p = none := S.gF p _ upd_same
  have lp : G.l p = none := S.gl p _ upd_same
  have np := put_ne S
  have up : ∀ (b : Addr) (u : HO), b ≠ p → (G.put p (.lst ws')).g b = some u → (G.put p (.lst ws)).g b = some u := fun b u hb e => by
    have e : upd G.g p _ b = some u := e
    show upd G.g p _ b = some u
    rw [upd_ne hb] at e ⊢
    exact e
  refine ⟨fun b u e => ?_, fun b u e => ?_, fun n a e => ?_, S.glr, fun b u e => ?_, fun b u e => ?_, fun b u e => ?_, S.len, fun n u a e1 e2 => ?_, S.inj, fun n a e => ?_, fun b ps e => ?_, S.lls, S.lnt, S.fnt, tabs_write S.tab (S.frm p _ upd_same) lst_not_tbl lst_not_code⟩
  · by_cases hb : b = p
    · subst hb; have e : upd G.g b _ b = some u := e; rw [upd_same] at e ⊢; exact e
    · rw [upd_ne hb]; exact S.frm b u (up b u hb e)
  · have e : G.l b = some u := e
    rw [upd_ne (ne_of_none e lp)]
    exact S.frl b u e
  · show upd G.g p _ a = none
    have h : upd G.g p _ a = none := S.gfr n a e
    rw [upd_ne (np n a e)] at h ⊢
    exact h
  · by_cases hb : b = p
    · subst hb; exact fp
    · exact S.gF b u (up b u hb e)
  · by_cases hb : b = p
    · subst hb; exact lp
    · exact S.gl b u (up b u hb e)
  · rw [upd_ne (ne_of_none e fp)]; exact S.sub b u e
  · have h := S.cells n u a e1 e2
    exact h.le Le.refl h.fr fun w e => by rw [upd_ne (np n a e2)]; exact e
  · obtain ⟨u, h⟩ := S.there n a e
    exact ⟨u, by rw [upd_ne (np n a e)]; exact h⟩
  · by_cases hb : b = p
    · subst hb; have e : upd G.g b _ b = some ps := e; rw [upd_same] at e; cases e; exact .inl ⟨_, rfl⟩
    · exact S.gnt b ps (up b _ hb e)
/-- it is let go of -/
theorem Sim.unput {p : Addr} {o : HO} (S : Sim T (G.put p o) m st F H) (gp : G.g p = none) : Sim T G m st F H := by
  have up : ∀ (b : Addr) (u : HO), G.g b = some u → (G.put p o).g b = some u := fun b u e => by
    show upd G.g p o b = some u
    rw [upd_ne (ne_of_none e gp)]
    exact e
  exact { S with
    frm := fun b u e => S.frm b u (up b u e)
    frl := S.frl
    gfr := fun n a e => by
      have h : upd G.g p o a = none := S.gfr n a e
      rw [upd_ne (put_ne S n a e)] at h
      exact h
    glr := S.glr
    gF := fun b u e => S.gF b u (up b u e)
    gl := fun b u e => S.gl b u (up b u e)
    gnt := fun b ps e => S.gnt b ps (up b _ e)
    lls := S.lls
    lnt := S.lnt }
/-- it is given to the evaluator, as something that never changes -/
theorem Sim.besideLst {p : Addr} {vs : List V} {ds : List D} (S : Sim T (G.put p (.lst vs)) m st F H) (gp : G.g p = none) (r : Reps T m F ds vs) :
    Sim T G m st (upd F p (.lst vs)) H ∧ Le m F m (upd F p (.lst vs)) ∧ Rep T m (upd F p (.lst vs)) (.lst ds) (.ref p) := by
  have np := put_ne S
  have fp : F p = none := S.gF p _ upd_same
  have hp : H p = some (.lst vs) := S.frm p _ upd_same
  have l : Le m F m (upd F p (.lst vs)) := ⟨fun _ _ h => h, fun b u e => by rw [upd_ne (ne_of_none e fp)]; exact e⟩
  have S1 := S.unput gp
  refine ⟨{ S1 with gF := fun b u e => ?ca, sub := fun b u e => ?cb, cells := fun n u a e1 e2 => ?cc, lnt := fun n a xs e1 e2 => ?cd, fnt := fun b ps e => ?ce }, l, .lst upd_same (Reps.le l r)⟩
  case ca =>
    rw [upd_ne (ne_of_none e gp)]
    exact S1.gF b u e
  case cb =>
    by_cases hb : b = p
    · subst hb; rw [upd_same] at e; cases e; exact hp
    · rw [upd_ne hb] at e; exact S.sub b u e
  case cc =>
    have h := S.cells n u a e1 e2
    refine h.le l ?_ fun w e => e
    rw [upd_ne (np n a e2)]
    exact h.fr
  case cd =>
    obtain ⟨ws, h1, h2⟩ := S.lnt n a xs e1 e2
    exact ⟨ws, h1, Reps.le l h2⟩
  case ce =>
    by_cases hb : b = p
    · subst hb; rw [upd_same] at e; cases e
    · rw [upd_ne hb] at e; exact S.fnt b ps e
/-- .. as something that may change -/
theorem Sim.besideCel {p : Addr} {vs : List V} {ds : List D} (S : Sim T (G.put p (.lst vs)) m st F H) (gp : G.g p = none) (r : Reps T m F ds vs) :
    Sim T G (m ++ [p]) (st ++ [.lst ds]) F H ∧ Le m F (m ++ [p]) F ∧ Rep T (m ++ [p]) F (.cel st.length) (.ref p) := by
  have hp : H p = some (.lst vs) := S.frm p _ upd_same
  refine ⟨(S.unput gp).take (put_ne S) ⟨_, hp⟩ gp (S.gl p _ upd_same) rfl ⟨vs, hp, Reps.le Le.push r, S.gF p _ upd_same⟩, Le.push, .cel ?_⟩
  rw [S.len, List.getElem?_append_right (Nat.le_refl _)]
  simp
/-- the loop of a comprehension -/
theorem lc_loop {I vs : List Nat} {g : DG} {t : DT} {d : DE} {env : EV} {σ : L2.St} {J : It} {ds : List D} {p : Addr} {Qd : Hp → Prop} {m0 : List Addr} {F0 H0 : Hp} {st0 st1 : List O} {ys : List D}
    (hI : ∀ i ∈ I, i ∈ vs) (at0 : Sim T G m0 st0 F0 H0) (ev : EnvR T m0 F0 env σ) (el : env.length ≤ List.length σ) (hp : H0 p = none) (hy : ∀ ws, YldG T (G.put p (.lst ws)) J ds m0 F0) (hz : ds.length ≤ sizeLine)
    (e : lcGo g t d (wipeD env vs) ds st0 = .ok ys st1)
    (fin : ∀ m F H ws, Le m0 F0 m F → Sim T (G.put p (.lst ws)) m st1 F H → Reps T m F ys ws → Qd H) :
    ∃ Wv : Nat → Nat → Hp → Prop, (∃ k, Wv 0 k (upd H0 p (.lst []))) ∧ ∀ i k H, Wv i k H →
      (J.stop i H ∧ Qd H) ∨ (J.go i H ∧ ∃ Nx : Hp → Prop, (∀ H', Nx H' → ∃ k', k' < k ∧ Wv (i + 1) k' H') ∧ ∀ x H', J.yld i H x H' → tDG T I g x (wipe σ vs) H' fun σ2 H2 => wipe σ2 vs = wipe σ vs ∧ tDT T W0 t σ2 H2 fun b H3 =>
        if b = true then tD T W0 d σ2 H3 fun y H4 => ∃ acc, H4 p = some (.lst acc) ∧ acc.length < sizeLine ∧ Nx (upd H4 p (.lst (acc ++ [y]))) else Nx H3) := by
  have ev' : EnvR T m0 F0 (wipeD env vs) (L2.wipe σ vs) := ev.wipe
  have el' : (wipeD env vs).length ≤ List.length (L2.wipe σ vs) := by rw [wipeD_len, wipe_length]; exact el
  -- between two turns: acc told, the rest to come
  refine ⟨fun i k H => ∃ m F st acc ws ys', k = ds.length - i ∧ i ≤ ds.length ∧ Le m0 F0 m F ∧ Sim T (G.put p (.lst ws)) m st F H ∧ Reps T m F acc ws ∧ acc.length ≤ i ∧ lcGo g t d (wipeD env vs) (ds.drop i) st = .ok ys' st1 ∧ acc ++ ys' = ys,
    ⟨ds.length, m0, F0, st0, [], [], ys, rfl, Nat.zero_le _, Le.refl, at0.beside hp, .nil, Nat.le_refl _, by rw [List.drop_zero]; exact e, rfl⟩, ?_⟩
  rintro i k H ⟨m, F, st, acc, ws, ys', rfl, hi, l, S, ra, hal, hgo, hys⟩
  have Y := hy ws m F st H l S
  by_cases hlt : i < ds.length
  · have hd : ds.drop i = ds[i] :: ds.drop (i + 1) := List.drop_eq_getElem_cons hlt
    rw [hd] at hgo
    obtain ⟨go, yl⟩ := Y.1 i ds[i] (List.getElem?_eq_getElem hlt)
    -- the turn's steps
    unfold lcGo at hgo
    cases q1 : g ds[i] (wipeD env vs) st with
    | ex x s => rw [q1] at hgo; cases hgo
    | no => rw [q1] at hgo; cases hgo
    | ok env1 st2 =>
    rw [q1] at hgo
    simp only at hgo
    cases q2 : t env1 st2 with
    | ex x s => rw [q2] at hgo; cases hgo
    | no => rw [q2] at hgo; cases hgo
    | ok b st3 =>
    rw [q2] at hgo
    simp only [R.calm] at hgo
    refine .inr ⟨go, fun H' => ∃ m F st acc ws ys', i + 1 ≤ ds.length ∧ Le m0 F0 m F ∧ Sim T (G.put p (.lst ws)) m st F H' ∧ Reps T m F acc ws ∧ acc.length ≤ i + 1 ∧ lcGo g t d (wipeD env vs) (ds.drop (i + 1)) st = .ok ys' st1 ∧ acc ++ ys' = ys, fun H' hn => ?_, fun x H' hx => ?_⟩
    · obtain ⟨m', F', st', acc', ws', ys'', h1, h2⟩ := hn
      exact ⟨ds.length - (i + 1), by omega, m', F', st', acc', ws', ys'', rfl, h1, h2⟩
    · obtain ⟨F2, l2, S2, r2⟩ := yl x H' hx
      refine ⟨_, m, F2, wipeD env vs, st, ds[i], ⟨S2, (ev'.le (l.trans l2)), el'⟩, r2, ?_⟩
      rw [q1]
      intro m3 F3 H3 σ3 l3 a3 o3
      refine ⟨wipe_off o3 hI, _, m3, F3, env1, st2, a3, ?_⟩
      rw [q2]
      intro m4 F4 H4 b' l4 S4 eb
      have eb : b = b' := eb
      subst eb
      have l04 := (l2.trans l3).trans l4
      cases b with
      | false =>
        rw [if_neg Bool.false_ne_true] at hgo ⊢
        exact ⟨m4, F4, st3, acc, ws, ys', hlt, l.trans l04, S4, Reps.le l04 ra, by omega, hgo, hys⟩
      | true =>
        rw [if_pos rfl] at hgo ⊢
        cases q3 : d env1 st3 with
        | ex x s => rw [q3] at hgo; cases hgo
        | no => rw [q3] at hgo; cases hgo
        | ok y st4 =>
        rw [q3] at hgo
        simp only at hgo
        cases q4 : lcGo g t d (wipeD env vs) (ds.drop (i + 1)) st4 with
        | ex x s => rw [q4] at hgo; cases hgo
        | no => rw [q4] at hgo; cases hgo
        | ok zs st5 =>
        rw [q4] at hgo
        cases hgo
        refine ⟨_, m4, F4, env1, st3, ⟨S4, a3.2.1.le l4, a3.2.2⟩, ?_⟩
        rw [q3]
        intro m5 F5 H5 yv l5 S5 r5
        have l05 := l04.trans l5
        have el5 := Reps.length ra
        refine ⟨ws, S5.frm p _ upd_same, by omega, m5, F5, st4, acc ++ [y], ws ++ [yv], zs, hlt, l.trans l05, S5.besideSet, (Reps.le l05 ra).append (.cons r5 .nil), by simp; omega, q4, ?_⟩
        rw [List.append_assoc]
        exact hys
  · have ei : i = ds.length := by omega
    subst ei
    rw [List.drop_length] at hgo
    unfold lcGo at hgo
    cases hgo
    rw [List.append_nil] at hys
    subst hys
    exact .inl ⟨Y.2, fin m F H ws l S ra⟩
abbrev blkX (X : Cx) (s : Shared) (H : Hp) (scope : Scope) (C : Addr) (cl : List (Str × Addr)) (fp : List Addr) : Cx := X.blk s H scope (compEnvC scope cl C X.env) fp
theorem lc_read {I : List Nat} {tg iter elt : Expr} {ifs : List Expr} {own : List (Str × Nat)} {it : DJ} {g : DG} {t : DT} {d : DE} {env : EV} {σ : L2.St} {Q : VK} {k : List D → List O → R D}
    (hi : SJ T X W tg iter it) (hI : ∀ i ∈ I, i ∈ own.map (·.2)) (at0 : At T X G m st F env σ H)
    (h : Post T (RV T) G m F ((it env st).bind (lcAll (own.map (·.2)) g t d k env)) Q (fun c da H' => W c da σ H'))
    (hk : ∀ G m F H st1 ys p ws, Sim T (G.put p (.lst ws)) m st1 F H → G.g p = none → Reps T m F ys ws → Post T (RV T) G m F (k ys st1) Q (fun c da H' => W c da σ H') → Q (.ref p) H) :
    tLc (wI X tg iter) (tDG T I g) (tDT T W0 t) (tD T W0 d) (own.map (·.2)) σ H Q := by
  refine hi _ m F env st σ H _ at0 (Post.bind h fun w st1 m1 F1 H1 J e1 l1 S1 y1 h1 => ?_)
  intro p hp
  unfold lcAll at h1
  split at h1
  · rename_i st1' us xss q
    obtain ⟨L, S1', sl, le, back⟩ := S1.lends q
    split at h1
    · rename_i hz
      split at h1
      · rename_i ys st2 e
        refine lc_loop hI S1' (at0.evr.le l1) at0.len hp (fun ws => y1 (Frm.put ⟨G.g, L⟩ p (.lst ws)) xss le) hz e fun m2 F2 H2 ws l2 S2 r2 => ?_
        exact hk G m2 F2 H2 (unlendS us st2) ys p ws (back _ m2 F2 H2 st2 l2 S2) (S1.frm.free hp) r2 (h1.le l2)
      · exact h1.elim
    · exact h1.elim
  · exact h1.elim
theorem se_lc {I : List Nat} {elt tg iter : Expr} {ifs : List Expr} {scope : Scope} {own : List (Str × Nat)} {pos : Pos} {it : DJ} {g : DG} {t : DT} {d : DE} (hc : X.calm = true) (hN : X.N.Nodup) (hi : SJ T X W tg iter it) (ok : BlkOk X.N X.env.scope scope own)
    (hI : ∀ i ∈ I, i ∈ own.map (·.2)) (hg : ∀ s H C cl fp, SG T (blkX X s H scope C cl fp) I tg g) (ht : ∀ s H C cl fp, SPt T (blkX X s H scope C cl fp) ifs t) (he : ∀ s H C cl fp, SE T (blkX X s H scope C cl fp) W0 elt d)
    (hs : ∀ x, foldedSetIterable iter X.env x = pure x := by intro _; rfl) : SE T X W (.ListComp elt [⟨tg, iter, ifs, 0⟩] scope pos) (dLc (own.map (·.2)) it g t d) := by
  refine ⟨?_⟩
  intro G m F env st σ H Q at0 h pins s II
  refine (pe_lc hc hN (pi_w (X := X) (tg := tg) (iter := iter)) ok (fun s H C cl fp => (hg s H C cl fp).pg) (fun s H C cl fp => ht s H C cl fp) (fun s H C cl fp => (he s H C cl fp).pe) hs).run pins s σ H Q II ?_
  refine lc_read (k := kLst) (ifs := ifs) (elt := elt) hi hI at0 h fun G m F H st1 ys p ws S gp r q => ?_
  obtain ⟨S2, l2, r2⟩ := S.besideLst gp r
  exact q m _ _ _ l2 S2 r2
theorem se_lcC {I : List Nat} {elt tg iter : Expr} {ifs : List Expr} {scope : Scope} {own : List (Str × Nat)} {pos : Pos} {it : DJ} {g : DG} {t : DT} {d : DE} (hc : X.calm = true) (hN : X.N.Nodup) (hi : SJ T X W tg iter it) (ok : BlkOk X.N X.env.scope scope own)
    (hI : ∀ i ∈ I, i ∈ own.map (·.2)) (hg : ∀ s H C cl fp, SG T (blkX X s H scope C cl fp) I tg g) (ht : ∀ s H C cl fp, SPt T (blkX X s H scope C cl fp) ifs t) (he : ∀ s H C cl fp, SE T (blkX X s H scope C cl fp) W0 elt d)
    (hs : ∀ x, foldedSetIterable iter X.env x = pure x := by intro _; rfl) : SE T X W (.ListComp elt [⟨tg, iter, ifs, 0⟩] scope pos) (dLcC (own.map (·.2)) it g t d) := by
  refine ⟨?_⟩
  intro G m F env st σ H Q at0 h pins s II
  refine (pe_lc hc hN (pi_w (X := X) (tg := tg) (iter := iter)) ok (fun s H C cl fp => (hg s H C cl fp).pg) (fun s H C cl fp => ht s H C cl fp) (fun s H C cl fp => (he s H C cl fp).pe) hs).run pins s σ H Q II ?_
  refine lc_read (k := kCel) (ifs := ifs) (elt := elt) hi hI at0 h fun G m F H st1 ys p ws S gp r q => ?_
  obtain ⟨S2, l2, r2⟩ := S.besideCel gp r
  exact q _ _ _ _ l2 S2 r2

/-! ### statements -/
inductive RS where
  | nx (env : EV) (st : List O)
  | rt (d : D) (st : List O)
  | bk (env : EV) (st : List O)
  | ct (env : EV) (st : List O)
  | ex (x : Xn) (env : EV) (st : List O)
  | no
abbrev DS := EV → List O → RS
def PostS (T : Tab) (X : Cx) (G : Frm) (m : List Addr) (F : Hp) (r : RS) (Dn : Ends) (W : WX) : Prop := match r with
  | .nx env st => ∀ m' F' H' σ', Le m F m' F' → At T X G m' st F' env σ' H' → Dn.nx σ' H'
  | .rt d st => ∀ m' F' H' v, Le m F m' F' → Sim T G m' st F' H' → Rep T m' F' d v → Dn.rt v H'
  | .bk env st => ∀ m' F' H' σ', Le m F m' F' → At T X G m' st F' env σ' H' → Dn.bk σ' H'
  | .ct env st => ∀ m' F' H' σ', Le m F m' F' → At T X G m' st F' env σ' H' → Dn.ct σ' H'
  | .ex x env st => ∀ m' F' H' σ' c da, Le m F m' F' → At T X G m' st F' env σ' H' → RepX T m' F' x c da H' → W c da σ' H'
  | .no => False
theorem PostS.le {r : RS} {Dn : Ends} (h : PostS T X G m F r Dn W) (l : Le m F m' F') : PostS T X G m' F' r Dn W := by
  cases r with
  | nx e s => exact fun m2 F2 H2 b l2 => h m2 F2 H2 b (l.trans l2)
  | rt e s => exact fun m2 F2 H2 b l2 => h m2 F2 H2 b (l.trans l2)
  | bk e s => exact fun m2 F2 H2 b l2 => h m2 F2 H2 b (l.trans l2)
  | ct e s => exact fun m2 F2 H2 b l2 => h m2 F2 H2 b (l.trans l2)
  | ex e env s => exact fun m2 F2 H2 σ' c da l2 => h m2 F2 H2 σ' c da (l.trans l2)
  | no => exact h
structure SS (T : Tab) (X : Cx) (W : WX) (s : Stmt) (d : DS) : Prop where
  run : ∀ G m F env st σ H Dn, At T X G m st F env σ H → PostS T X G m F (d env st) Dn W → wS X s Dn σ H
instance {T : Tab} {X : Cx} {W : WX} {s : Stmt} {d : DS} : CoeFun (SS T X W s d) (fun _ => ∀ G m F env st σ H Dn, At T X G m st F env σ H → PostS T X G m F (d env st) Dn W → wS X s Dn σ H) := ⟨SS.run⟩
structure SSs (T : Tab) (X : Cx) (W : WX) (s : List Stmt) (d : DS) : Prop where
  run : ∀ G m F env st σ H Dn, At T X G m st F env σ H → PostS T X G m F (d env st) Dn W → wSs X s Dn σ H
instance {T : Tab} {X : Cx} {W : WX} {s : List Stmt} {d : DS} : CoeFun (SSs T X W s d) (fun _ => ∀ G m F env st σ H Dn, At T X G m st F env σ H → PostS T X G m F (d env st) Dn W → wSs X s Dn σ H) := ⟨SSs.run⟩
/-- an expression ahead -/
def R.thenS {α : Type} (r : R α) (env : EV) (f : α → List O → RS) : RS := match r with
  | .ok a st => f a st
  | .ex x st => .ex x env st
  | .no => .no
theorem PostS.ahead {α β : Type} {Rp : List Addr → Hp → α → β → Prop} {r : R α} {f : α → List O → RS} {Dn : Ends} {Q : β → Hp → Prop} {env : EV} {σ : L2.St} (at0 : At T X G m st F env σ H) (h : PostS T X G m F (r.thenS env f) Dn W)
    (k : ∀ a st' m' F' H' b, r = .ok a st' → Le m F m' F' → Sim T G m' st' F' H' → Rp m' F' a b → PostS T X G m' F' (f a st') Dn W → Q b H') : Post T Rp G m F r Q (fun c da H' => W c da σ H') := by
  cases r with
  | ok a st' => exact fun m' F' H' b l S rp => k a st' m' F' H' b rfl l S rp (PostS.le h l)
  | ex x st' => exact fun m' F' H' c da l S rx => h m' F' H' σ c da l ⟨S, at0.evr.le l, at0.len⟩ rx
  | no => exact h
def sPass : DS := fun env st => .nx env st
def sSeq (a b : DS) : DS := fun env st => match a env st with
  | .nx env' st' => b env' st'
  | r => r
theorem sss_nil : SSs T X W [] sPass := ⟨fun G m F env st σ H Dn a h pins s I => pss_nil.run pins s σ H Dn I (h m F H σ Le.refl a)⟩
theorem sss_cons {s : Stmt} {r : List Stmt} {a b : DS} (h1 : SS T X W s a) (h2 : SSs T X W r b) : SSs T X W (s :: r) (sSeq a b) := by
  refine ⟨?_⟩
  intro G m F env st σ H Dn at0 h pins sh I
  refine (pss_cons (ps_w (X := X) (st := s)) (pss_w (X := X) (sts := r))).run pins sh σ H Dn I ?_
  refine h1 _ m F env st σ H _ at0 ?_
  unfold sSeq at h
  cases q : a env st with
  | nx env' st' =>
    rw [q] at h
    exact fun m' F' H' σ' l a' => h2 _ m' F' env' st' σ' H' Dn a' (PostS.le h l)
  | _ => rw [q] at h; exact h
theorem ss_pass {pos : Pos} : SS T X W (.Pass pos) sPass := ⟨fun G m F env st σ H Dn a h pins s I => ps_pass.run pins s σ H Dn I (h m F H σ Le.refl a)⟩
theorem ss_doc {x j pos pos'} : SS T X W (.Expr (.Constant (.str x) j pos) pos') sPass := ⟨fun G m F env st σ H Dn a h pins s I => ps_doc.run pins s σ H Dn I (h m F H σ Le.refl a)⟩
def sBrk : DS := fun env st => .bk env st
def sCnt : DS := fun env st => .ct env st
theorem ss_break {pos : Pos} : SS T X W (.Break pos) sBrk := ⟨fun G m F env st σ H Dn a h pins s I => ps_break.run pins s σ H Dn I (h m F H σ Le.refl a)⟩
theorem ss_continue {pos : Pos} : SS T X W (.Continue pos) sCnt := ⟨fun G m F env st σ H Dn a h pins s I => ps_continue.run pins s σ H Dn I (h m F H σ Le.refl a)⟩
theorem ss_never {s : Stmt} : SS T X W s (fun _ _ => .no) := ⟨fun _ _ _ _ _ _ _ _ _ h => h.elim⟩
theorem sss_never {s : List Stmt} : SSs T X W s (fun _ _ => .no) := ⟨fun _ _ _ _ _ _ _ _ _ h => h.elim⟩
def sExpr (d : DE) : DS := fun env st => (d env st).thenS env fun _ st1 => .nx env st1
theorem ss_expr {e : Expr} {pos : Pos} {d : DE} (he : SE T X W e d) (hs : swapsWith e none pos.line X.env = pure false := by rfl) : SS T X W (.Expr e pos) (sExpr d) := by
  refine ⟨?_⟩
  intro G m F env st σ H Dn at0 h pins s I
  refine (ps_expr (pe_w (X := X) (e := e)) hs).run pins s σ H Dn I ?_
  exact he _ m F env st σ H _ at0 (PostS.ahead at0 h fun a st1 m1 F1 H1 v e1 l1 S1 r1 h1 => h1 m1 F1 H1 σ Le.refl (at0.next l1 S1))
def sRet (d : DE) : DS := fun env st => (d env st).thenS env fun x st1 => .rt x st1
theorem ss_ret {e : Expr} {pos : Pos} {d : DE} (he : SE T X W e d) : SS T X W (.Return (some e) pos) (sRet d) := by
  refine ⟨?_⟩
  intro G m F env st σ H Dn at0 h pins s I
  refine (ps_ret (pe_w (X := X) (e := e))).run pins s σ H Dn I ?_
  exact he _ m F env st σ H _ at0 (PostS.ahead at0 h fun a st1 m1 F1 H1 v e1 l1 S1 r1 h1 => h1 m1 F1 H1 v Le.refl S1 r1)
def sRetN : DS := fun _ st => .rt .non st
theorem ss_retN {pos : Pos} : SS T X W (.Return none pos) sRetN := ⟨fun G m F env st σ H Dn a h pins s I => ps_retN.run pins s σ H Dn I (h m F H .non Le.refl a.sim .non)⟩
def sIf (c : DT) (a b : DS) : DS := fun env st => (c env st).thenS env fun k st1 => if k = true then a env st1 else b env st1
theorem ss_if {c : Expr} {a b : List Stmt} {pos : Pos} {dc : DT} {da db : DS} (hc : ST T X W c dc) (ha : SSs T X W a da) (hb : SSs T X W b db) : SS T X W (.If c a b pos) (sIf dc da db) := by
  refine ⟨?_⟩
  intro G m F env st σ H Dn at0 h pins s I
  refine (ps_if (pt_w (X := X) (e := c)) (pss_w (X := X) (sts := a)) (pss_w (X := X) (sts := b))).run pins s σ H Dn I ?_
  refine hc _ m F env st σ H _ at0 (PostS.ahead at0 h fun x st1 m1 F1 H1 v e1 l1 S1 r1 h1 => ?_)
  cases r1
  cases x with
  | true => rw [if_pos rfl] at h1 ⊢; exact ha _ m1 F1 env st1 σ H1 _ (at0.next l1 S1) h1
  | false => rw [if_neg Bool.false_ne_true] at h1 ⊢; exact hb _ m1 F1 env st1 σ H1 _ (at0.next l1 S1) h1
/-- target = value -/
def sAsg (d : DE) (g : DG) : DS := fun env st => (d env st).thenS env fun x st1 => match g x env st1 with
  | .ok env' st2 => .nx env' st2
  | _ => .no
theorem asg_read {I : List Nat} {e tg : Expr} {d : DE} {g : DG} {env : EV} {σ : L2.St} {Dn : Ends} (he : SE T X W e d) (hg : SG T X I tg g) (at0 : At T X G m st F env σ H) (h : PostS T X G m F (sAsg d g env st) Dn W) :
    tAsg (wE X e) (wG X tg) Dn σ H := by
  refine he _ m F env st σ H _ at0 (PostS.ahead at0 h fun x st1 m1 F1 H1 v e1 l1 S1 r1 h1 => ?_)
  refine hg _ m1 F1 env st1 σ H1 x v _ (at0.next l1 S1) r1 ?_
  cases q : g x env st1 with
  | ok env' st2 =>
    rw [q] at h1
    exact fun m2 F2 H2 σ2 l2 a2 o2 => h1 m2 F2 H2 σ2 l2 a2
  | ex x s => rw [q] at h1; exact h1
  | no => rw [q] at h1; exact h1
theorem ss_asg {I : List Nat} {tg e : Expr} {pos : Pos} {d : DE} {g : DG} (he : SE T X W e d) (hg : SG T X I tg g) (hs : swapsWithSole [tg] e pos.line X.env = pure false := by rfl) (hw : swappedStores [tg] e X.env = pure none := by rfl) (h1 : (assignEach [tg] X.env).map (·.2) = [assign tg X.env] := by rfl) : SS T X W (.Assign [tg] e pos) (sAsg d g) :=
  ⟨fun G m F env st σ H Dn at0 h pins s II => (ps_asg (pe_w (X := X) (e := e)) (pg_w (X := X) (tg := tg)) hs hw h1).run pins s σ H Dn II (asg_read he hg at0 h)⟩
/-- name = [..] on one line -/
theorem ss_setLc {I : List Nat} {i : Nat} {y : Str} {py : Pos} {elt tg iter : Expr} {ifs : List Expr} {scope : Scope} {own : List (Str × Nat)} {pos spos : Pos} {it : DJ} {g : DG} {t : DT} {d : DE} (hc : X.calm = true) (hN : X.N.Nodup) (hy : X.N[i]? = some y) (hyl : X.env.scope.names.lookup y = some .local)
    (hsw : swapsWith (.ListComp elt [⟨tg, iter, ifs, 0⟩] scope pos) (some (.Name y py)) spos.line X.env = pure true) (hi : SJ T X W tg iter it) (ok : BlkOk X.N X.env.scope scope own)
    (hI : ∀ i ∈ I, i ∈ own.map (·.2)) (hg : ∀ s H C cl fp, SG T (blkX X s H scope C cl fp) I tg g) (ht : ∀ s H C cl fp, SPt T (blkX X s H scope C cl fp) ifs t) (he : ∀ s H C cl fp, SE T (blkX X s H scope C cl fp) W0 elt d)
    (hs : ∀ x, foldedSetIterable iter X.env x = pure x := by intro _; rfl) : SS T X W (.Assign [.Name y py] (.ListComp elt [⟨tg, iter, ifs, 0⟩] scope pos) spos) (sAsg (dLc (own.map (·.2)) it g t d) (gNm i)) := by
  refine ⟨?_⟩
  intro G m F env st σ H Dn at0 h pins s II
  refine (ps_setLc hc hN hy hyl hsw (pi_w (X := X) (tg := tg) (iter := iter)) ok (fun s H C cl fp => (hg s H C cl fp).pg) (fun s H C cl fp => ht s H C cl fp) (fun s H C cl fp => (he s H C cl fp).pe) hs).run pins s σ H Dn II ?_
  have h' : Post T (RV T) G m F (dLc (own.map (·.2)) it g t d env st) (fun v H' => gName i v σ H' Dn.nx) (fun c da H' => W c da σ H') := PostS.ahead at0 h fun x st1 m1 F1 H1 v e1 l1 S1 r1 h1 =>
    h1 m1 F1 H1 _ Le.refl ⟨S1, (at0.evr.le l1).set i at0.len r1, by simp only [List.length_set]; exact at0.len⟩
  refine lc_read (k := kLst) (ifs := ifs) (elt := elt) hi hI at0 h' fun G m F H st1 ys p ws S gp r q => ?_
  obtain ⟨S2, l2, r2⟩ := S.besideLst gp r
  exact q m _ _ _ l2 S2 r2
theorem ss_setLcC {I : List Nat} {i : Nat} {y : Str} {py : Pos} {elt tg iter : Expr} {ifs : List Expr} {scope : Scope} {own : List (Str × Nat)} {pos spos : Pos} {it : DJ} {g : DG} {t : DT} {d : DE} (hc : X.calm = true) (hN : X.N.Nodup) (hy : X.N[i]? = some y) (hyl : X.env.scope.names.lookup y = some .local)
    (hsw : swapsWith (.ListComp elt [⟨tg, iter, ifs, 0⟩] scope pos) (some (.Name y py)) spos.line X.env = pure true) (hi : SJ T X W tg iter it) (ok : BlkOk X.N X.env.scope scope own)
    (hI : ∀ i ∈ I, i ∈ own.map (·.2)) (hg : ∀ s H C cl fp, SG T (blkX X s H scope C cl fp) I tg g) (ht : ∀ s H C cl fp, SPt T (blkX X s H scope C cl fp) ifs t) (he : ∀ s H C cl fp, SE T (blkX X s H scope C cl fp) W0 elt d)
    (hs : ∀ x, foldedSetIterable iter X.env x = pure x := by intro _; rfl) : SS T X W (.Assign [.Name y py] (.ListComp elt [⟨tg, iter, ifs, 0⟩] scope pos) spos) (sAsg (dLcC (own.map (·.2)) it g t d) (gNm i)) := by
  refine ⟨?_⟩
  intro G m F env st σ H Dn at0 h pins s II
  refine (ps_setLc hc hN hy hyl hsw (pi_w (X := X) (tg := tg) (iter := iter)) ok (fun s H C cl fp => (hg s H C cl fp).pg) (fun s H C cl fp => ht s H C cl fp) (fun s H C cl fp => (he s H C cl fp).pe) hs).run pins s σ H Dn II ?_
  have h' : Post T (RV T) G m F (dLcC (own.map (·.2)) it g t d env st) (fun v H' => gName i v σ H' Dn.nx) (fun c da H' => W c da σ H') := PostS.ahead at0 h fun x st1 m1 F1 H1 v e1 l1 S1 r1 h1 =>
    h1 m1 F1 H1 _ Le.refl ⟨S1, (at0.evr.le l1).set i at0.len r1, by simp only [List.length_set]; exact at0.len⟩
  refine lc_read (k := kCel) (ifs := ifs) (elt := elt) hi hI at0 h' fun G m F H st1 ys p ws S gp r q => ?_
  obtain ⟨S2, l2, r2⟩ := S.besideCel gp r
  exact q _ _ _ _ l2 S2 r2
/-- what is lent is given back -/
def RS.back (us : List (Nat × List D)) : RS → RS
  | .nx e s => .nx e (unlendS us s)
  | .rt d s => .rt d (unlendS us s)
  | .bk e s => .bk e (unlendS us s)
  | .ct e s => .ct e (unlendS us s)
  | .ex x e s => .ex x e (unlendS us s)
  | .no => .no
theorem PostS.back {G' : Frm} {us : List (Nat × List D)} {r : RS} {Dn : Ends} (hb : ∀ m' F' H' st2, Le m F m' F' → Sim T G' m' st2 F' H' → Sim T G m' (unlendS us st2) F' H') (h : PostS T X G m F (r.back us) Dn W) : PostS T X G' m F r Dn W := by
  cases r with
  | nx e s => exact fun m2 F2 H2 σ l a => h m2 F2 H2 σ l ⟨hb _ _ _ _ l a.sim, a.evr, a.len⟩
  | rt e s => exact fun m2 F2 H2 b l S => h m2 F2 H2 b l (hb _ _ _ _ l S)
  | bk e s => exact fun m2 F2 H2 σ l a => h m2 F2 H2 σ l ⟨hb _ _ _ _ l a.sim, a.evr, a.len⟩
  | ct e s => exact fun m2 F2 H2 σ l a => h m2 F2 H2 σ l ⟨hb _ _ _ _ l a.sim, a.evr, a.len⟩
  | ex e env s => exact fun m2 F2 H2 σ' c da l a => h m2 F2 H2 σ' c da l ⟨hb _ _ _ _ l a.sim, a.evr, a.len⟩
  | no => exact h
/-- for -/
def forGo (g : DG) (b : DS) : List D → DS
  | [], env, st => .nx env st
  | x :: r, env, st => match g x env st with
    | .ok env1 st1 => match b env1 st1 with
      | .nx env2 st2 => forGo g b r env2 st2
      | .ct env2 st2 => forGo g b r env2 st2
      | .bk env2 st2 => .nx env2 st2
      | q => q
    | _ => .no
def forAll (g : DG) (b : DS) (env : EV) : IW → List O → RS := fun w st => match lendS w.1 st with
  | some (st1, us, xss) => (forGo g b (w.2 xss) env st1).back us
  | none => .no
def sFor (it : DJ) (g : DG) (b : DS) : DS := fun env st => (it env st).thenS env (forAll g b env)
theorem ss_for {I : List Nat} {tg iter : Expr} {body : List Stmt} {pos : Pos} {it : DJ} {g : DG} {b : DS} (hp : PassesOwn (model X.prog X.w) X.A X.env X.xe) (hc : X.calm = true) (hi : SJ T X W tg iter it) (hg : SG T X I tg g) (hb : SSs T X W body b)
    (hs : ∀ x, foldedSetIterable iter X.env x = pure x := by intro _; rfl) : SS T X W (.For tg iter body [] pos) (sFor it g b) := by
  refine ⟨?_⟩
  intro G m F env st σ H Dn at0 h pins s II
  refine (ps_for hp hc (pi_w (X := X) (tg := tg) (iter := iter)) (pg_w (X := X) (tg := tg)) (pss_w (X := X) (sts := body)) hs).run pins s σ H Dn II ?_
  refine hi _ m F env st σ H _ at0 (PostS.ahead at0 h fun w st1 m1 F1 H1 J e1 l1 S1 y1 h1 => ?_)
  unfold forAll at h1
  split at h1
  rotate_left
  · exact h1.elim
  rename_i st1' us xss q
  obtain ⟨L, S1', sl, le, back⟩ := S1.lends q
  have y1 := y1 ⟨G.g, L⟩ xss le
  generalize w.2 xss = ds at y1 h1
  have h1 := PostS.back (G' := ⟨G.g, L⟩) (back G.g) h1
  have a1 := (at0.next l1 S1)
  have a1 : At T X ⟨G.g, L⟩ m1 st1' F1 env σ H1 := ⟨S1', a1.evr, a1.len⟩
  clear h S1 S1' q
  refine ⟨fun i k σ H => ∃ m F env st, k = ds.length - i ∧ i ≤ ds.length ∧ Le m1 F1 m F ∧ At T X ⟨G.g, L⟩ m st F env σ H ∧ PostS T X ⟨G.g, L⟩ m F (forGo g b (ds.drop i) env st) Dn W,
    ⟨ds.length, m1, F1, env, st1', rfl, Nat.zero_le _, Le.refl, a1, h1⟩, ?_⟩
  rintro i k σ H ⟨m, F, env, st, rfl, hi', l, a, p⟩
  have Y := y1 m F st H l a.sim
  by_cases hlt : i < ds.length
  · have hd : ds.drop i = ds[i] :: ds.drop (i + 1) := List.drop_eq_getElem_cons hlt
    rw [hd] at p
    obtain ⟨go, yl⟩ := Y.1 i ds[i] (List.getElem?_eq_getElem hlt)
    unfold forGo at p
    refine .inr ⟨go, fun σ H => ∃ m F env st, i + 1 ≤ ds.length ∧ Le m1 F1 m F ∧ At T X ⟨G.g, L⟩ m st F env σ H ∧ PostS T X ⟨G.g, L⟩ m F (forGo g b (ds.drop (i + 1)) env st) Dn W, fun σ' H' hn => ?_, fun x H' hx => ?_⟩
    · obtain ⟨m', F', env', st', h1, h2⟩ := hn
      exact ⟨ds.length - (i + 1), by omega, m', F', env', st', rfl, h1, h2⟩
    · obtain ⟨F2, l2, S2, r2⟩ := yl x H' hx
      refine hg _ m F2 env st σ H' ds[i] x _ (a.next l2 S2) r2 ?_
      cases q1 : g ds[i] env st with
      | ex x s => rw [q1] at p; exact p.elim
      | no => rw [q1] at p; exact p.elim
      | ok env1 st2 =>
      rw [q1] at p
      intro m3 F3 H3 σ3 l3 a3 o3
      refine hb _ m3 F3 env1 st2 σ3 H3 _ a3 ?_
      have p3 := PostS.le p (l2.trans l3)
      have l03 := l.trans (l2.trans l3)
      cases q2 : b env1 st2 with
      | nx env2 st3 => simp only [q2] at p3; exact fun m4 F4 H4 σ4 l4 a4 => ⟨m4, F4, env2, st3, hlt, l03.trans l4, a4, PostS.le p3 l4⟩
      | ct env2 st3 => simp only [q2] at p3; exact fun m4 F4 H4 σ4 l4 a4 => ⟨m4, F4, env2, st3, hlt, l03.trans l4, a4, PostS.le p3 l4⟩
      | bk env2 st3 => simp only [q2] at p3; exact p3
      | rt d st3 => simp only [q2] at p3; exact p3
      | ex x e3 st3 => simp only [q2] at p3; exact p3
      | no => simp only [q2] at p3; exact p3
  · have ei : i = ds.length := by omega
    subst ei
    rw [List.drop_length] at p
    exact .inl ⟨Y.2, p m F H σ Le.refl a⟩
/-- while, so many turns at most -/
def whGo (c : DT) (b : DS) : Nat → DS
  | 0, _, _ => .no
  | n + 1, env, st => (c env st).thenS env fun k st1 => if k = true then match b env st1 with
      | .nx env2 st2 => whGo c b n env2 st2
      | .ct env2 st2 => whGo c b n env2 st2
      | .bk env2 st2 => .nx env2 st2
      | q => q
    else .nx env st1
theorem ss_while {c : Expr} {body : List Stmt} {pos : Pos} {dc : DT} {b : DS} (n : Nat) (hp : PassesOwn (model X.prog X.w) X.A X.env X.xe) (hc : ST T X W c dc) (hb : SSs T X W body b) : SS T X W (.While c body [] pos) (whGo dc b n) := by
  refine ⟨?_⟩
  intro G m F env st σ H Dn at0 h pins s II
  refine (ps_while hp (pt_w (X := X) (e := c)) (pss_w (X := X) (sts := body))).run pins s σ H Dn II ?_
  refine ⟨fun k σ H => ∃ m F env st, At T X G m st F env σ H ∧ PostS T X G m F (whGo dc b k env st) Dn W, ⟨n, m, F, env, st, at0, h⟩, ?_⟩
  rintro k σ H ⟨m, F, env, st, a, p⟩
  cases k with
  | zero => exact p.elim
  | succ k =>
    unfold whGo at p
    refine hc _ m F env st σ H _ a (PostS.ahead a p fun x st1 m1 F1 H1 v e1 l1 S1 r1 p1 => ?_)
    cases r1
    have a1 := a.next l1 S1
    cases x with
    | false => rw [if_neg Bool.false_ne_true] at p1 ⊢; exact p1 m1 F1 H1 σ Le.refl a1
    | true =>
      rw [if_pos rfl] at p1 ⊢
      refine ⟨fun σ H => ∃ m F env st, At T X G m st F env σ H ∧ PostS T X G m F (whGo dc b k env st) Dn W, fun σ' H' hn => ⟨k, Nat.lt_succ_self k, hn⟩, ?_⟩
      refine hb _ m1 F1 env st1 σ H1 _ a1 ?_
      cases q2 : b env st1 with
      | nx env2 st3 => simp only [q2] at p1; exact fun m4 F4 H4 σ4 l4 a4 => ⟨m4, F4, env2, st3, a4, PostS.le p1 l4⟩
      | ct env2 st3 => simp only [q2] at p1; exact fun m4 F4 H4 σ4 l4 a4 => ⟨m4, F4, env2, st3, a4, PostS.le p1 l4⟩
      | bk env2 st3 => simp only [q2] at p1; exact p1
      | rt d st3 => simp only [q2] at p1; exact p1
      | ex x e3 st3 => simp only [q2] at p1; exact p1
      | no => simp only [q2] at p1; exact p1
end
end Den

namespace Den
open PySem PySem.Spec PyProof.Rows L2 RZ
section
variable {T : Tab} {X : Cx} {W : WX} {m m' : List Addr} {F F' H H' : Hp} {G : Frm} {st st' : List O}

/-! ### what a def hands back -/
def mapO {α β : Type} (f : α → Option β) : List α → Option (List β)
  | [] => some []
  | x :: r => match f x with
    | some y => match mapO f r with
      | some ys => some (y :: ys)
      | none => none
    | none => none
/-- a value without the objects from n0 on: lists among them become lists that never change -/
def frz : Nat → Nat → List O → D → Option D
  | 0, _, _, _ => none
  | f + 1, n0, st, d => match d with
    | .cel k => if k < n0 then some (.cel k) else match st[k]? with
      | some (.lst xs) => match mapO (frz f n0 st) xs with
        | some ys => some (.lst ys)
        | none => none
      | _ => none
    | .tup xs => match mapO (frz f n0 st) xs with
      | some ys => some (.tup ys)
      | none => none
    | .lst xs => match mapO (frz f n0 st) xs with
      | some ys => some (.lst ys)
      | none => none
    | .rol xs => match mapO (frz f n0 st) xs with
      | some ys => some (.rol ys)
      | none => none
    | .ins c xs => match mapO (frz f n0 st) xs with
      | some ys => some (.ins c ys)
      | none => none
    | .exn c xs => match mapO (frz f n0 st) xs with
      | some ys => some (.exn c ys)
      | none => none
    | d => some d
/-- nothing from n0 on is in it -/
def oldD : Nat → Nat → D → Bool
  | 0, _, _ => false
  | f + 1, n0, d => match d with
    | .cel k => decide (k < n0)
    | .tup xs => xs.all (oldD f n0)
    | .lst xs => xs.all (oldD f n0)
    | .rol xs => xs.all (oldD f n0)
    | .ins _ xs => xs.all (oldD f n0)
    | .exn _ xs => xs.all (oldD f n0)
    | _ => true
def oldO (n0 : Nat) : O → Bool
  | .lst xs => xs.all (oldD 20 n0)
  | .ins _ fs => fs.all fun p => oldD 20 n0 p.2
  | .lent xs => xs.all (oldD 20 n0)
/-- behind a call: what it made is forgotten -/
def popR (n0 : Nat) (r : R D) : R D := match r with
  | .ok d st => if st.length = n0 then .ok d st else match frz 20 n0 st d with
    | some d' => if (st.take n0).all (oldO n0) then .ok d' (st.take n0) else .no
    | none => .no
  | .ex x st => if st.length = n0 then .ex x st else match x.fs with
    | none => if (st.take n0).all (oldO n0) then .ex x (st.take n0) else .no
    | some fs => if (fs.all fun p => oldD 20 n0 p.2) && (st.take n0).all (oldO n0) then .ex x (st.take n0) else .no
  | .no => .no
open Classical in
/-- what never changes any more -/
noncomputable def popF (n0 : Nat) (m : List Addr) (st : List O) (F H : Hp) : Hp := fun b => if ∃ k xs, n0 ≤ k ∧ m[k]? = some b ∧ st[k]? = some (.lst xs) then H b else F b
theorem popF_le {n0 : Nat} (S : Sim T G m st F H) : Same F (popF n0 m st F H) := fun b o e => by
  unfold popF
  split
  · rename_i h
    obtain ⟨k, xs, h1, h2, h3⟩ := h
    obtain ⟨vs, g1, g2, g3⟩ := S.cells k _ b h3 h2
    rw [g3] at e
    cases e
  · exact e
theorem popF_old {n0 n : Nat} {a : Addr} (S : Sim T G m st F H) (hn : n < n0) (e : m[n]? = some a) : popF n0 m st F H a = F a := by
  unfold popF
  rw [if_neg]
  rintro ⟨k, xs, h1, h2, h3⟩
  have := S.inj n k a e h2
  omega
theorem take_get {α : Type} {l : List α} {n k : Nat} {a : α} (h : k < n) (e : l[k]? = some a) : (l.take n)[k]? = some a := by
  rw [List.getElem?_take_of_lt h]; exact e
mutual
theorem rep_old {n0 : Nat} (S : Sim T G m st F H) : ∀ (f : Nat) {d : D} {v : V}, Rep T m F d v → oldD f n0 d = true → Rep T (m.take n0) (popF n0 m st F H) d v
  | 0, _, _, _, e => by simp only [oldD] at e; cases e
  | f + 1, _, _, .non, _ => .non
  | f + 1, _, _, .bl b, _ => .bl b
  | f + 1, _, _, .int i, _ => .int i
  | f + 1, _, _, .str x, _ => .str x
  | f + 1, _, _, .tup h r, e => by simp only [oldD] at e; exact .tup (sqT_same (popF_le S) h) (reps_old S f r e)
  | f + 1, _, _, .lst h r, e => by simp only [oldD] at e; exact .lst (popF_le S _ _ h) (reps_old S f r e)
  | f + 1, _, _, .rol h r, e => by simp only [oldD] at e; exact .rol ((popF_le S).seq h) (reps_old S f r e)
  | f + 1, _, _, .cel h, e => by simp only [oldD] at e; exact .cel (take_get (of_decide_eq_true e) h)
  | f + 1, _, _, .fn n, _ => .fn n
  | f + 1, _, _, .cls n, _ => .cls n
  | f + 1, _, _, .ty s, _ => .ty s
  | f + 1, _, _, .ins h e1 r, e => by simp only [oldD] at e; exact .ins (popF_le S _ _ h) e1 (reps_old S f r e)
  | f + 1, _, _, .dct0 h, _ => .dct0 (popF_le S _ _ h)
  | f + 1, _, _, .lam h1 h2, _ => .lam (popF_le S _ _ h1) (popF_le S _ _ h2)
  | f + 1, _, _, .exn x h e1 r, e => by simp only [oldD] at e; exact .exn x (popF_le S _ _ h) e1 (reps_old S f r e)
theorem reps_old {n0 : Nat} (S : Sim T G m st F H) : ∀ (f : Nat) {ds : List D} {vs : List V}, Reps T m F ds vs → ds.all (oldD f n0) = true → Reps T (m.take n0) (popF n0 m st F H) ds vs
  | _, _, _, .nil, _ => .nil
  | f, _, _, .cons h r, e => by
    rw [List.all_cons, Bool.and_eq_true] at e
    exact .cons (rep_old S f h e.1) (reps_old S f r e.2)
end
theorem reps_frz {n0 : Nat} {f : Nat} (ih : ∀ {d d' : D} {v : V}, Rep T m F d v → frz f n0 st d = some d' → Rep T (m.take n0) (popF n0 m st F H) d' v) : ∀ {ds ds' : List D} {vs : List V}, Reps T m F ds vs → mapO (frz f n0 st) ds = some ds' → Reps T (m.take n0) (popF n0 m st F H) ds' vs
  | _, _, _, .nil, e => by simp only [mapO] at e; cases e; exact .nil
  | _, _, _, .cons (d := d) (ds := ds) h r, e => by
    simp only [mapO] at e
    cases q1 : frz f n0 st d with
    | none => rw [q1] at e; cases e
    | some y =>
      cases q2 : mapO (frz f n0 st) ds with
      | none => rw [q1, q2] at e; cases e
      | some ys =>
        rw [q1, q2] at e
        cases e
        exact .cons (ih h q1) (reps_frz ih r q2)
theorem rep_frz {n0 : Nat} (S : Sim T G m st F H) : ∀ (f : Nat) {d d' : D} {v : V}, Rep T m F d v → frz f n0 st d = some d' → Rep T (m.take n0) (popF n0 m st F H) d' v
  | 0, _, _, _, _, e => by simp only [frz] at e; cases e
  | f + 1, d, d', v, r, e => by
    have ih : ∀ {ds ds' : List D} {vs : List V}, Reps T m F ds vs → mapO (frz f n0 st) ds = some ds' → Reps T (m.take n0) (popF n0 m st F H) ds' vs := reps_frz (rep_frz S f)
    unfold frz at e
    cases r with
    | cel h =>
      rename_i k a
      simp only at e
      split at e
      · rename_i hk
        cases e
        exact .cel (take_get hk h)
      · rename_i hk
        split at e
        · rename_i xs hx
          obtain ⟨vs, g1, g2, g3⟩ := S.cells k _ a hx h
          cases q : mapO (frz f n0 st) xs with
          | none => rw [q] at e; cases e
          | some ys =>
            rw [q] at e
            cases e
            refine .lst ?_ (ih g2 q)
            unfold popF
            rw [if_pos ⟨k, xs, Nat.le_of_not_lt hk, h, hx⟩]
            exact g1
        · cases e
    | tup h r =>
      rename_i ds
      simp only at e
      cases q : mapO (frz f n0 st) ds with
      | none => rw [q] at e; cases e
      | some ys => rw [q] at e; cases e; exact .tup (sqT_same (popF_le S) h) (ih r q)
    | lst h r =>
      rename_i ds
      simp only at e
      cases q : mapO (frz f n0 st) ds with
      | none => rw [q] at e; cases e
      | some ys => rw [q] at e; cases e; exact .lst (popF_le S _ _ h) (ih r q)
    | rol h r =>
      rename_i ds
      simp only at e
      cases q : mapO (frz f n0 st) ds with
      | none => rw [q] at e; cases e
      | some ys => rw [q] at e; cases e; exact .rol ((popF_le S).seq h) (ih r q)
    | ins h e1 r =>
      rename_i ds
      simp only at e
      cases q : mapO (frz f n0 st) ds with
      | none => rw [q] at e; cases e
      | some ys => rw [q] at e; cases e; exact .ins (popF_le S _ _ h) e1 (ih r q)
    | exn x h e1 r =>
      rename_i ds
      simp only at e
      cases q : mapO (frz f n0 st) ds with
      | none => rw [q] at e; cases e
      | some ys => rw [q] at e; cases e; exact .exn x (popF_le S _ _ h) e1 (ih r q)
    | non => cases e; exact .non
    | bl b => cases e; exact .bl b
    | int i => cases e; exact .int i
    | str x => cases e; exact .str x
    | fn n => cases e; exact .fn n
    | cls n => cases e; exact .cls n
    | ty s => cases e; exact .ty s
    | dct0 h => cases e; exact .dct0 (popF_le S _ _ h)
    | lam h1 h2 => cases e; exact .lam (popF_le S _ _ h1) (popF_le S _ _ h2)
theorem RepO.old {n0 n : Nat} {o : O} {a : Addr} (S : Sim T G m st F H) (hn : n < n0) (e : m[n]? = some a) (h : RepO T m F o a H) (ho : oldO n0 o = true) : RepO T (m.take n0) (popF n0 m st F H) o a H := by
  cases o with
  | lst ds =>
    obtain ⟨vs, h1, h2, h3⟩ := h
    exact ⟨vs, h1, reps_old S 20 h2 ho, by rw [popF_old S hn e]; exact h3⟩
  | ins c fs =>
    obtain ⟨dx, vs, h1, h2, h3, h4⟩ := h
    refine ⟨dx, vs, h1, h2, reps_old S 20 h3 ?_, by rw [popF_old S hn e]; exact h4⟩
    have ho : (fs.all fun p => oldD 20 n0 p.2) = true := ho
    rw [List.all_map]
    exact ho
  | lent ds =>
    obtain ⟨vs, h1, h2, h3⟩ := h
    exact ⟨vs, h1, reps_old S 20 h2 ho, by rw [popF_old S hn e]; exact h3⟩
theorem Sim.pop {n0 : Nat} (S : Sim T G m st F H) (ho : (st.take n0).all (oldO n0) = true) : Sim T G (m.take n0) (st.take n0) (popF n0 m st F H) H := by
  have sub : ∀ n a, (m.take n0)[n]? = some a → m[n]? = some a ∧ n < n0 := fun n a e => by
    have hl : n < n0 := by
      have := (List.getElem?_eq_some_iff.mp e).1
      rw [List.length_take] at this
      omega
    rw [List.getElem?_take_of_lt hl] at e
    exact ⟨e, hl⟩
  have up : ∀ n o a, (st.take n0)[n]? = some o → (m.take n0)[n]? = some a → st[n]? = some o ∧ o ∈ st.take n0 := fun n o a e1 e2 => by
    obtain ⟨h2, hn⟩ := sub n a e2
    have m1 := List.mem_of_getElem? e1
    rw [List.getElem?_take_of_lt hn] at e1
    exact ⟨e1, m1⟩
  refine ⟨S.frm, S.frl, fun n a e => S.gfr n a (sub n a e).1, fun n a o e e1 e2 => S.glr n a o (sub n a e).1 (up n o a e1 e).1 e2, fun b o e => ?_, S.gl, fun b o e => ?_, by simp [S.len], fun n o a e1 e2 => ?_, fun i j a e1 e2 => S.inj i j a (sub i a e1).1 (sub j a e2).1, fun n a e => S.there n a (sub n a e).1, S.gnt, S.lls, fun n a xs e1 e2 => ?_, fun b ps e => ?_, S.tab⟩
  rotate_right
  rotate_right
  · obtain ⟨z1, z2⟩ := up n _ a e1 e2
    obtain ⟨vs, h1, h2⟩ := S.lnt n a xs z1 (sub n a e2).1
    exact ⟨vs, h1, reps_old S 20 h2 (List.all_eq_true.mp ho _ z2)⟩
  · unfold popF at e
    split at e
    · rename_i h
      obtain ⟨k, xs, h1, h2, h3⟩ := h
      obtain ⟨vs, g1, g2, g3⟩ := S.cells k _ b h3 h2
      rw [g1] at e
      cases e
    · exact S.fnt b ps e
  · unfold popF
    rw [if_neg]
    · exact S.gF b o e
    · rintro ⟨k, xs, h1, h2, h3⟩
      have := S.gfr k b h2
      rw [e] at this
      cases this
  · unfold popF at e
    split at e
    · exact e
    · exact S.sub b o e
  · obtain ⟨h2, hn⟩ := sub n a e2
    have hs : n < (st.take n0).length := (List.getElem?_eq_some_iff.mp e1).1
    have e1' : st[n]? = some o := by rw [List.getElem?_take_of_lt hn] at e1; exact e1
    exact (S.cells n o a e1' h2).old S hn h2 (List.all_eq_true.mp ho o (List.mem_of_getElem? e1))
theorem Le.pop {n0 : Nat} {m1 : List Addr} {F1 H1 : Hp} {st1 : List O} (hl : m.length = n0) (l : Le m F m1 F1) (S : Sim T G m1 st1 F1 H1) : Le m F (m1.take n0) (popF n0 m1 st1 F1 H1) := by
  refine ⟨fun n a e => take_get ?_ (l.m n a e), l.F.trans (popF_le S)⟩
  rw [← hl]
  exact (List.getElem?_eq_some_iff.mp e).1
/-- what was wanted of the short result holds of the long one -/
theorem Post.pop {r : R D} {Q : VK} {E : XW} (S0 : Sim T G m st F H) (h : Post T (RV T) G m F (popR st.length r) Q E) : Post T (RV T) G m F r Q E := by
  have hl : m.length = st.length := S0.len.symm
  cases r with
  | no => exact h
  | ok d st1 =>
    intro m1 F1 H1 v l S r1
    unfold popR at h
    simp only at h
    split at h
    · exact h m1 F1 H1 v l S r1
    · split at h
      · rename_i d' hd
        split at h
        · rename_i ho
          exact h _ _ H1 v (Le.pop hl l S) (S.pop ho) (rep_frz S 20 r1 hd)
        · exact h.elim
      · exact h.elim
  | ex x st1 =>
    intro m1 F1 H1 c da l S rx
    unfold popR at h
    simp only at h
    split at h
    · exact h m1 F1 H1 c da l S rx
    · split at h
      · rename_i hx
        split at h
        · rename_i ho
          refine h _ _ H1 c da (Le.pop hl l S) (S.pop ho) ?_
          unfold RepX at rx ⊢
          rw [hx] at rx ⊢
          exact rx
        · exact h.elim
      · rename_i fs hx
        split at h
        · rename_i ho
          rw [Bool.and_eq_true] at ho
          refine h _ _ H1 c da (Le.pop hl l S) (S.pop ho.2) ?_
          unfold RepX at rx ⊢
          rw [hx] at rx ⊢
          obtain ⟨e, a, vs, h1, h2, h3, h4⟩ := rx
          refine ⟨e, a, vs, h1, popF_le S _ _ h2, h3, reps_old S 20 h4 ?_⟩
          rw [List.all_map]
          exact ho.1
        · exact h.elim

/-! ### defs -/
def spD (T : Tab) (n : Nat) (call : List D → List O → R D) : Sp := fun vs H Q E => vs.length = n ∧ ∃ G m F st ds, Sim T G m st F H ∧ Reps T m F ds vs ∧ Post T (RV T) G m F (call ds st) Q E
/-- a def's body, run: N names -/
def runF (N : Nat) (b : DS) (ds : List D) (st : List O) : R D := popR st.length (match b (ds.map some ++ List.replicate (N - ds.length) none) st with
  | .nx _ st' => .ok .non st'
  | .rt d st' => .ok d st'
  | .ex x _ st' => .ex x st'
  | _ => .no)
theorem start_env {N : List Str} {ds : List D} {vs : List V} (r : Reps T m F ds vs) : EnvR T m F (ds.map some ++ List.replicate (N.length - ds.length) none) (L2.start N vs) := fun i d e => by
  unfold L2.start
  by_cases hi : i < ds.length
  · rw [List.getElem?_append_left (by simpa using hi), List.getElem?_map] at e
    cases q : ds[i]? with
    | none => rw [q] at e; cases e
    | some x =>
      rw [q] at e
      cases e
      obtain ⟨v, h1, h2⟩ := r.get q
      refine ⟨v, ?_, h2⟩
      rw [List.getElem?_append_left (by simpa [← r.length] using hi), List.getElem?_map, h1]
      rfl
  · rw [List.getElem?_append_right (by simpa using hi), List.getElem?_replicate] at e
    split at e <;> cases e
/-- the wish about exceptions in a def's body -/
abbrev WF (E : XK) : WX := fun c d _ H => E c d H
/-- a def keeps its promise wherever no repr runs around it -/
structure FnG (gb : Bool) (P : Program) (w : World) (K : PySem.W.Frag) (mg : Str → Option Value) (base : Heap) (k : Nat) (f : Addr) (fd : FuncData) (ps : List Str) (sp : Sp) : Prop where
  len : ∀ vs H Q E, sp vs H Q E → vs.length = ps.length
  run : ∀ (A : Around) (outer : List Env) (s : Shared) (H : Hp) (args : Args) (us : List Value) (vs : List V) (Q : VK) (E : XK), (gb = true → A.guards = some []) → Room k A → Env0 P w K mg base A outer s H → BindsTo s fd args (ps.zip us) → Vals vs us → sp vs H Q E →
    codeAny (model P w) A (.call (.ref f) args) (CR (L2.CX P w) outer P w H s Q E) s
theorem FnG.mono {gb : Bool} {P : Program} {w : World} {K : PySem.W.Frag} {mg : Str → Option Value} {base : Heap} {j k : Nat} {f : Addr} {fd : FuncData} {ps : List Str} {sp : Sp} (Fn : FnG gb P w K mg base j f fd ps sp) (h : j ≤ k) : FnG gb P w K mg base k f fd ps sp :=
  ⟨Fn.len, fun A outer s H args us vs Q E hg hr => Fn.run A outer s H args us vs Q E hg (hr.mono h)⟩
/-- the body of a def is run in a frame of its own -/
theorem body_run {P : Program} {w : World} {K : PySem.W.Frag} {mg : Str → Option Value} {base : Heap} {qual : Str} {scope : Scope} {f : Addr} {cdv : Value} {N ps : List Str} {body : List Stmt} {A : Around} {outer : List Env} {s s1 : Shared} {H : Hp} {us : List Value} {vs : List V} {Q : VK} {E : XK} {t : TS}
    (Sc : FnScope N ps scope) (hd : A.handled = none) (e0 : Env0 P w K mg base A outer s H) (hl : vs.length = ps.length) (r : Vals vs us)
    (x : InCallC s s.heap.objs.size (bindL (envOfC qual scope s.heap.objs.size f cdv).kindOf (ps.zip us) fun _ => none) (cellsFrom (s.heap.objs.size + 1) scope.names []) (bindC (envOfC qual scope s.heap.objs.size f cdv).kindOf (ps.zip us) fun _ => none) s1)
    (ht : PSs (cxOf (L2.CX P w) P w K mg base N qual scope f cdv A outer s H E) body t) (hq : t { nx := fun _ H' => Q .non H', rt := Q } (L2.start N vs) H) :
    wpAny (model P w) (A.deeper (envOfC qual scope s.heap.objs.size f cdv)) (execs body (envOfC qual scope s.heap.objs.size f cdv))
      (fun fl s' => match fl with
        | .next => CE outer P w H s Q .none s'
        | .ret u => CE outer P w H s Q u s'
        | _ => False) (cxOf (L2.CX P w) P w K mg base N qual scope f cdv A outer s H E).xe s1 := by
  have I0 := inv_start (CX := L2.CX P w) (E := E) (N := N) Sc hd e0 hl r x
  refine thn (ht.run [] s1 (L2.start N vs) H _ I0 hq) fun fl s' out => ?_
  cases fl with
  | next => obtain ⟨σ1, H1, J, q⟩ := out; exact ⟨.non, H1, J.os, J.bare, J.base, J.hok, rfl, q⟩
  | ret u => obtain ⟨v, σ1, H1, J, rv, q⟩ := out; exact ⟨v, H1, J.os, J.bare, J.base, J.hok, rv, q⟩
  | brk => obtain ⟨_, _, _, no⟩ := out; exact no
  | cont => obtain ⟨_, _, _, no⟩ := out; exact no
theorem fn_den_at {gb : Bool} {P : Program} {w : World} {K : PySem.W.Frag} {mg : Str → Option Value} {base : Heap} {x qual : Str} {s0 : Stmt} {f : Addr} {N ps : List Str} {k : Nat} {b : DS} {oc kV doc pm cdv ct : Value} {od an : Option Addr} {osl : Array (Option Value)} (lk : K.lookup f = some ⟨oc, od, .func (PySem.W.fnOf x qual (defArgs s0) (defBody s0) (defScope s0) .none kV doc pm an cdv ct), osl⟩) (hcd : PySem.W.codeIn K cdv qual = true) (Sc : FnScope N ps (defScope s0))
    (hb : ∀ (A : Around) (outer : List Env) (s : Shared) (H : Hp) (E : XK), (gb = true → A.guards = some []) → Room k (A.deeper (envOfC qual (defScope s0) s.heap.objs.size f cdv)) →
      SSs T (cxOf (L2.CX P w) P w K mg base N qual (defScope s0) f cdv A outer s H E) (WF E) (defBody s0) b) :
    FnG gb P w K mg base (k + 1) f (PySem.W.fnOf x qual (defArgs s0) (defBody s0) (defScope s0) .none kV doc pm an cdv ct) ps (spD T ps.length (runF N.length b)) := by
  refine ⟨fun vs H Q E h => h.1, fun A outer s H args us vs Q E hg hr e0 hbind r hsp => ?_⟩
  obtain ⟨hl, G, m, F, st, ds, S, rd, p⟩ := hsp
  have kin : K.In s.heap := e0.mod.kin.keeps fun b' o' z => (e0.bs b' o' z).1
  have nolim : s.heap.NoLimit := e0.mod.nolimit.keeps fun b' o' z => (e0.bs b' o' z).1
  have kinds : ∀ y ∈ ps.zip us, (defScope s0).names.lookup y.1 = some .local ∨ ((defScope s0).names.lookup y.1 = some .cell ∧ ((cellsFrom (s.heap.objs.size + 1) (defScope s0).names []).lookup y.1).isSome = true) := by
    rintro ⟨n, v⟩ hy
    rcases Sc.par n (List.of_mem_zip hy).1 with z | z
    · exact .inl z
    · exact .inr ⟨z, PySem.W.cellsFrom_some _ _ _ (.inl z)⟩
  refine codeAny_call_function hr.depth (kin _ _ lk) rfl Sc.co Sc.gen rfl (PySem.W.codeRec_of kin hcd) (hbind _ _ _ _ (wpAny_newFunctionEnv_cells Sc.kind kinds fun env he s1 xc => ?_))
  subst he
  refine ⟨nolim.keeps xc.toInCall.keep, codeAny_func ?_⟩
  have p' := Post.pop S (r := (match b (ds.map some ++ List.replicate (N.length - ds.length) none) st with
      | .nx _ st' => .ok .non st'
      | .rt d st' => .ok d st'
      | .ex x _ st' => .ex x st'
      | _ => .no : R D)) p
  have todo : wSs (cxOf (L2.CX P w) P w K mg base N qual (defScope s0) f cdv A outer s H E) (defBody s0) { nx := fun _ H' => Q .non H', rt := Q } (L2.start N vs) H := by
    refine hb A outer s H E hg (hr.deeper _) G m F _ st _ H _ ⟨S, start_env (N := N) rd, ?_⟩ ?_
    · have e := rd.length
      unfold L2.start
      simp only [List.length_append, List.length_map, List.length_replicate]
      omega
    · cases q : b (ds.map some ++ List.replicate (N.length - ds.length) none) st with
      | nx e s => rw [q] at p'; exact fun m' F' H' σ' l a => p' m' F' H' .non l a.sim .non
      | rt d s => rw [q] at p'; exact p'
      | ex x e1 s => rw [q] at p'; exact fun m' F' H' σ' c da l a rx => p' m' F' H' c da l a.sim rx
      | bk e s => rw [q] at p'; exact p'.elim
      | ct e s => rw [q] at p'; exact p'.elim
      | no => rw [q] at p'; exact p'.elim
  refine wpAny_mono (body_run Sc hr.hd e0 hl r xc pss_w todo) (fun fl s' out => ?_) fun e s' out => out
  cases fl with
  | next => exact out
  | ret u => exact out
  | brk => exact out.elim
  | cont => exact out.elim
theorem fn_den {gb : Bool} {P : Program} {w : World} {K : PySem.W.Frag} {mg : Str → Option Value} {base : Heap} {x qual : Str} {s0 : Stmt} {f : Addr} {fd : FuncData} {N ps : List Str} {k : Nat} {b : DS} (Fn : Fun K x qual s0 f fd) (Sc : FnScope N ps (defScope s0))
    (hb : ∀ (cdv : Value) (A : Around) (outer : List Env) (s : Shared) (H : Hp) (E : XK), (gb = true → A.guards = some []) → Room k (A.deeper (envOfC qual (defScope s0) s.heap.objs.size f cdv)) →
      SSs T (cxOf (L2.CX P w) P w K mg base N qual (defScope s0) f cdv A outer s H E) (WF E) (defBody s0) b) :
    FnG gb P w K mg base (k + 1) f fd ps (spD T ps.length (runF N.length b)) := by
  obtain ⟨oc, od, kV, doc, pm, an, cdv, ct, osl, rfl, lk, hcd⟩ := Fn.ex
  exact fn_den_at lk hcd Sc (hb cdv)
/-- the n-th def may be called from here -/
structure Cal (T : Tab) (X : Cx) (gb : Bool) (k : Nat) (n : Nat) (call : List D → List O → R D) : Prop where
  ex : ∃ (fd : FuncData) (ps : List Str), FnG gb X.prog X.w X.K X.mg X.base k (T.fad n) fd ps (spD T ps.length call) ∧ Binds X.K fd ps [] ∧ ∀ ds st, ds.length ≠ ps.length → call ds st = .no
  kp : PySem.W.keepIn X.K (.ref (T.fad n)) = true
/-- what a call wants of where it stands -/
structure Here (X : Cx) (W : WX) (gb : Bool) (k : Nat) : Prop where
  gd : gb = true → X.A.guards = some []
  room : Room k X.A
  tk : Takes X W
theorem run_fng {pins : List (Addr × Obj)} {σ : L2.St} {s : Shared} {Q : VK} {us : List Value} {vs : List V} {fd : FuncData} {ps : List Str} {sp : Sp} {f : Addr} {k : Nat} {gb : Bool} (Fo : FnG gb X.prog X.w X.K X.mg X.base k f fd ps sp) (he : Here X W gb k) (hb : Binds X.K fd ps [])
    (I : Inv X pins σ H s) (r : Vals vs us) (h : sp vs H Q (WE W σ)) : wpAny (model X.prog X.w) X.A (call (.ref f) us) (EP X pins σ Q) X.xe s := by
  have hl : (us ++ []).length = ps.length := by rw [List.append_nil, ← r.length]; exact Fo.len _ _ _ _ h
  have hbt := hb s us I.kIn hl
  rw [List.append_nil] at hbt
  refine wpAny_call (codeAny_mono (Fo.run X.A X.stack s H ⟨us, []⟩ us vs Q (WE W σ) he.gd he.room I.env0 hbt r h) fun res s' out => ?_)
  cases res with
  | error e => exact passAt he.tk σ pins H s e s' I out
  | ok fl =>
    cases fl with
    | ret u => exact I.after out
    | _ => exact False.elim out
def dFn (call : List D → List O → R D) (da : DA) : DE := fun env st => (da env st).bind fun xs st1 => call xs st1
theorem spD_of {call : List D → List O → R D} {ps : List Str} {ds : List D} {vs : List V} {Q : VK} {E : XW} (hn : ∀ ds st, ds.length ≠ ps.length → call ds st = .no) (S : Sim T G m st F H) (r : Reps T m F ds vs) (h : Post T (RV T) G m F (call ds st) Q E) : spD T ps.length call vs H Q E := by
  refine ⟨?_, G, m, F, st, ds, S, r, h⟩
  rw [← r.length]
  by_cases e : ds.length = ps.length
  · exact e
  · rw [hn ds st e] at h
    exact h.elim
/-- f(..), f a def that stands at the top -/
theorem se_fnCall {x : Str} {n k : Nat} {e : Expr} {es : List Expr} {p pos : Pos} {call : List D → List O → R D} {da : DA} {gb : Bool} (C : Cal T X gb k n call) (hh : Here X W gb k) (hg : Gl X x) (hm : X.mg x = some (.ref (T.fad n))) (ha : SA T X W (e :: es) da)
    (hdb : (x == ("__debug__" : Str)) = false := by decide) (he : starEach (e :: es) X.env = (false, eval e X.env) :: starEach es X.env := by exact star_of rfl) (hpl : (backTo pos (starEach es X.env)).any (·.1) = false := by exact hpl_of rfl) : SE T X W (.Call (.Name x p) (e :: es) [] pos) (dFn call da) := by
  refine ⟨?_⟩
  intro G m F env st σ H Q at0 h pins s II
  obtain ⟨fd, ps, Fo, hb, hn⟩ := C.ex
  refine wpAny_Call_Name_kw (ld_glob II hg hm ?_ hdb)
  refine PySem.W.callWith_K (h₀ := X.base) II.ok.mod.kin C.kp (thn (ha _ m F env st σ H (fun vs H1 => ∃ m1 F1 st1 xs, Sim T G m1 st1 F1 H1 ∧ Reps T m1 F1 xs vs ∧ Post T (RV T) G m1 F1 (call xs st1) Q (fun c da H' => W c da σ H')) at0
    (Post.bind h fun xs st1 m1 F1 H1 vs e1 l1 S1 r1 h1 => ⟨m1, F1, st1, xs, S1, r1, h1⟩) pos pins s II) fun us s1 got => ?_) he hpl
  obtain ⟨vs, H1, I1, r1, m1, F1, st1, xs, S1, r2, h1⟩ := got
  exact ⟨I1.kIn, run_fng Fo hh hb I1 r1 (spD_of hn S1 r2 h1)⟩
theorem se_fnCall0 {x : Str} {n k : Nat} {p pos : Pos} {call : List D → List O → R D} {gb : Bool} (C : Cal T X gb k n call) (hh : Here X W gb k) (hg : Gl X x) (hm : X.mg x = some (.ref (T.fad n)))
    (hdb : (x == ("__debug__" : Str)) = false := by decide) : SE T X W (.Call (.Name x p) [] [] pos) (dFn call dNil) := by
  refine ⟨?_⟩
  intro G m F env st σ H Q at0 h pins s II
  obtain ⟨fd, ps, Fo, hb, hn⟩ := C.ex
  have h : Post T (RV T) G m F (call [] st) Q (fun c da H' => W c da σ H') := h
  refine wpAny_Call_Name_kw (ld_glob II hg hm ?_ hdb)
  exact PySem.W.callWith_K0 II.kIn C.kp (run_fng (us := []) Fo hh hb II .nil (spD_of hn at0.sim .nil h))
/-- a def that a name of one's own holds -/
def dFnV (ok : Nat → Bool) (call : Nat → List D → List O → R D) (dv : DE) (da : DA) : DE := fun env st => (dv env st).bind fun f st1 => match f with
  | .fn n => if ok n then (da env st1).bind fun xs st2 => call n xs st2 else .no
  | _ => .no
theorem se_fnVal {x : Str} {k : Nat} {e : Expr} {es : List Expr} {p pos : Pos} {ok : Nat → Bool} {call : Nat → List D → List O → R D} {dv : DE} {da : DA} {gb : Bool} (C : ∀ n, ok n = true → Cal T X gb k n (call n)) (hh : Here X W gb k) (hv : SE T X W (.Name x p) dv) (ha : SA T X W (e :: es) da)
    (he : starEach (e :: es) X.env = (false, eval e X.env) :: starEach es X.env := by exact star_of rfl) (hpl : (backTo pos (starEach es X.env)).any (·.1) = false := by exact hpl_of rfl) : SE T X W (.Call (.Name x p) (e :: es) [] pos) (dFnV ok call dv da) := by
  refine ⟨?_⟩
  intro G m F env st σ H Q at0 h pins s II
  refine wpAny_Call_Name_kw ?_
  refine thn (hv _ m F env st σ H (fun v H1 => ∃ n m1 F1 st1, v = .ref (T.fad n) ∧ ok n = true ∧ Le m F m1 F1 ∧ Sim T G m1 st1 F1 H1 ∧ Post T (RV T) G m1 F1 ((da env st1).bind fun xs st2 => call n xs st2) Q (fun c da H' => W c da σ H')) at0 (Post.bind h fun f st1 m1 F1 H1 v e1 l1 S1 r1 h1 => ?_) pins s II) fun u s1 got => ?_
  · cases r1 with
    | fn n =>
      have h1 : Post T (RV T) G m1 F1 (if ok n then (da env st1).bind fun xs st2 => call n xs st2 else .no) Q (fun c da H' => W c da σ H') := h1
      split at h1
      · rename_i hk
        exact ⟨n, m1, F1, st1, rfl, hk, l1, S1, h1⟩
      · exact h1.elim
    | _ => exact h1.elim
  · obtain ⟨v, H1, I1, r1, n, m1, F1, st1, ev, hk, l1, S1, h1⟩ := got
    subst ev
    cases r1
    obtain ⟨fd, ps, Fo, hb, hn⟩ := (C n hk).ex
    refine PySem.W.callWith_K (h₀ := X.base) I1.ok.mod.kin (C n hk).kp (thn (ha _ m1 F1 env st1 σ H1 (fun vs H2 => ∃ m2 F2 st2 xs, Sim T G m2 st2 F2 H2 ∧ Reps T m2 F2 xs vs ∧ Post T (RV T) G m2 F2 (call n xs st2) Q (fun c da H' => W c da σ H')) (at0.next l1 S1)
      (Post.bind h1 fun xs st2 m2 F2 H2 vs e2 l2 S2 r2 h2 => ⟨m2, F2, st2, xs, S2, r2, h2⟩) pos pins s1 I1) fun us s2 got => ?_) he hpl
    obtain ⟨vs, H2, I2, r2, m2, F2, st2, xs, S2, r3, h2⟩ := got
    exact ⟨I2.kIn, run_fng Fo hh hb I2 r2 (spD_of hn S2 r3 h2)⟩

/-! ### methods of built-in types -/
def rM (T : Tab) (g : D → List D → List O → R D) : V → List V → Hp → VK → Prop := fun x xs H Q => ∃ G m F st o ds, Sim T G m st F H ∧ Rep T m F o x ∧ Reps T m F ds xs ∧ Post T (RV T) G m F (g o ds st) Q (fun _ _ _ => False)
def dMeth (chk : D → List O → Bool) (g : D → List D → List O → R D) (d : DE) (da : DA) : DE := fun env st => (d env st).bind fun o st1 => if chk o st1 then (da env st1).bind fun ys st2 => (g o ys st2).calm else .no
/-- what the look at the receiver says of its type -/
def Chk (T : Tab) (K : PySem.W.Frag) (chk : D → List O → Bool) (Ty : String) : Prop := ∀ G m st F H o v, Sim T G m st F H → Rep T m F o v → chk o st = true → tyV K Ty v H
theorem se_meth {o : Expr} {name : Str} {es : List Expr} {apos cpos : Pos} {Ty : String} {chk : D → List O → Bool} {g : D → List D → List O → R D} {d : DE} {da : DA}
    (hp : PE X (.Call (.Attribute o name apos) es [] cpos) (tBM X.K Ty (rM T g) (wE X o) (wA X es))) (hc : Chk T X.K chk Ty) (ho : SE T X W o d) (ha : SA T X W es da) : SE T X W (.Call (.Attribute o name apos) es [] cpos) (dMeth chk g d da) := by
  refine ⟨?_⟩
  intro G m F env st σ H Q at0 h pins s II
  refine hp.run pins s σ H Q II ?_
  refine ho _ m F env st σ H _ at0 (Post.bind h fun ov st1 m1 F1 H1 v e1 l1 S1 r1 h1 => ?_)
  split at h1
  · rename_i hk
    refine ⟨hc G m1 st1 F1 H1 ov v S1 r1 hk, ?_⟩
    refine ha _ m1 F1 env st1 σ H1 _ (at0.next l1 S1) (Post.bind h1 fun ys st2 m2 F2 H2 vs e2 l2 S2 r2 h2 => ?_)
    exact ⟨G, m2, F2, st2, ov, ys, S2, Rep.le l2 r1, r2, h2.calm⟩
  · exact h1.elim
theorem se_meth0 {o : Expr} {name : Str} {apos cpos : Pos} {Ty : String} {chk : D → List O → Bool} {g : D → List D → List O → R D} {d : DE}
    (hp : PE X (.Call (.Attribute o name apos) [] [] cpos) (tBM0 X.K Ty (rM T g) (wE X o))) (hc : Chk T X.K chk Ty) (ho : SE T X W o d) : SE T X W (.Call (.Attribute o name apos) [] [] cpos) (dMeth chk g d dNil) := by
  refine ⟨?_⟩
  intro G m F env st σ H Q at0 h pins s II
  refine hp.run pins s σ H Q II ?_
  refine ho _ m F env st σ H _ at0 (Post.bind h fun ov st1 m1 F1 H1 v e1 l1 S1 r1 h1 => ?_)
  split at h1
  · rename_i hk
    exact ⟨hc G m1 st1 F1 H1 ov v S1 r1 hk, G, m1, F1, st1, ov, [], S1, r1, .nil, Post.calm h1⟩
  · exact h1.elim
def isL (d : D) (st : List O) : Bool := (lstOf d st).isSome
theorem chk_list (hK : X.K = T.K) : Chk T X.K isL "list" := fun G m st F H o v S r h => by
  unfold isL at h
  cases q : lstOf o st with
  | none => rw [q] at h; cases h
  | some xs =>
    obtain ⟨a, vs, rfl, h1, h2⟩ := lstOf_rep S r q
    exact .inl ⟨rfl, vs, SqL.of h1⟩
def isS (d : D) (_ : List O) : Bool := match d with
  | .str _ => true
  | _ => false
theorem chk_str {K : PySem.W.Frag} : Chk T K isS "str" := fun G m st F H o v S r h => by
  cases r <;> first | rfl | cases h
/-- xs.append(y) -/
def mApp : D → List D → List O → R D := fun o ys st => match o, ys with
  | .cel n, [y] => match st[n]? with
    | some (.lst xs) => if xs.length < sizeLine then .ok .non (st.set n (.lst (xs ++ [y]))) else .no
    | _ => .no
  | _, _ => .no
theorem md_append : MtM X "list.append" (rM T mApp) := by
  intro pins s σ H x vs v us Q I rx rv h
  obtain ⟨G, m, F, st, o, ds, S, r1, r2, p⟩ := h
  unfold mApp at p
  split at p
  · rename_i n y
    cases r1 with
    | cel hn =>
      cases r2 with
      | cons r3 r4 =>
        cases r4
        split at p
        · rename_i xs hx
          split at p
          · rename_i hl
            obtain ⟨ws, g1, g2, g3⟩ := S.cells _ _ _ hx hn
            refine mt_append pins s σ H _ _ v us Q I rx rv ⟨_, ws, _, rfl, rfl, g1, by rw [← g2.length]; exact hl, ?_⟩
            exact p m F _ _ Le.refl (S.setL hn hx (g2.append (.cons r3 .nil))) .non
          · exact p.elim
        · exact p.elim
  · exact p.elim
/-- xs.pop(), xs.pop(i) -/
def mPop : D → List D → List O → R D := fun o ys st => match o, ys with
  | .cel n, [] => match st[n]? with
    | some (.lst xs) => match xs[xs.length - 1]? with
      | some y => .ok y (st.set n (.lst xs.dropLast))
      | none => .no
    | _ => .no
  | _, _ => .no
def mPopAt : D → List D → List O → R D := fun o ys st => match o, ys with
  | .cel n, [.int i] => match st[n]? with
    | some (.lst xs) => if smallI i then match seqIndex? i xs.length with
      | some k => match xs[k]? with
        | some y => .ok y (st.set n (.lst (xs.eraseIdx k)))
        | none => .no
      | none => .no else .no
    | _ => .no
  | _, _ => .no
theorem Reps.dropLast : ∀ {ds : List D} {vs : List V}, Reps T m F ds vs → Reps T m F ds.dropLast vs.dropLast
  | _, _, .nil => .nil
  | _, _, .cons h .nil => .nil
  | _, _, .cons h (.cons h' r) => .cons h (Reps.dropLast (.cons h' r))
theorem Reps.erase : ∀ {ds : List D} {vs : List V} (k : Nat), Reps T m F ds vs → Reps T m F (ds.eraseIdx k) (vs.eraseIdx k)
  | _, _, _, .nil => .nil
  | _, _, 0, .cons h r => r
  | _, _, k + 1, .cons h r => .cons h (Reps.erase k r)
theorem md_pop : MtM X "list.pop" (rM T mPop) := by
  intro pins s σ H x vs v us Q I rx rv h
  obtain ⟨G, m, F, st, o, ds, S, r1, r2, p⟩ := h
  unfold mPop at p
  split at p
  · rename_i n
    cases r1 with
    | cel hn =>
      cases r2
      split at p
      · rename_i xs hx
        split at p
        · rename_i y hy
          obtain ⟨ws, g1, g2, g3⟩ := S.cells _ _ _ hx hn
          obtain ⟨yv, g4, g5⟩ := g2.get hy
          refine mt_pop pins s σ H _ _ v us Q I rx rv ⟨_, ws, yv, rfl, rfl, g1, by rw [← g2.length]; exact g4, ?_⟩
          exact p m F _ _ Le.refl (S.setL hn hx g2.dropLast) g5
        · exact p.elim
      · exact p.elim
  · exact p.elim
theorem md_popAt : MtM X "list.pop" (rM T mPopAt) := by
  intro pins s σ H x vs v us Q I rx rv h
  obtain ⟨G, m, F, st, o, ds, S, r1, r2, p⟩ := h
  unfold mPopAt at p
  split at p
  · rename_i n i
    cases r1 with
    | cel hn =>
      cases r2 with
      | cons r3 r4 =>
        cases r4
        cases r3
        split at p
        · rename_i xs hx
          split at p
          · rename_i hi
            obtain ⟨z1, z2⟩ := smallI_ok hi
            split at p
            · rename_i k hk
              split at p
              · rename_i y hy
                obtain ⟨ws, g1, g2, g3⟩ := S.cells _ _ _ hx hn
                obtain ⟨yv, g4, g5⟩ := g2.get hy
                refine mt_popAt pins s σ H _ _ v us Q I rx rv ⟨_, ws, i, k, yv, rfl, rfl, g1, by omega, by omega, by rw [← g2.length]; exact hk, g4, ?_⟩
                exact p m F _ _ Le.refl (S.setL hn hx (g2.erase k)) g5
              · exact p.elim
            · exact p.elim
          · exact p.elim
        · exact p.elim
  · exact p.elim
/-- n.bit_length() -/
def dBits (d : DE) : DE := fun env st => (d env st).bind fun x st1 => match x with
  | .int i => .ok (.int (Builtin.Int.intBits i : Nat)) st1
  | _ => .no
theorem se_bits {o : Expr} {apos pos : Pos} {d : DE} (ho : SE T X W o d) (hbase : attributeBase o "bit_length" X.env (eval o X.env) = eval o X.env := by rfl) (hline : (apos.endLine == pos.line) = true := by rfl) : SE T X W (.Call (.Attribute o "bit_length" apos) [] [] pos) (dBits d) := by
  refine ⟨?_⟩
  intro G m F env st σ H Q at0 h pins s II
  refine (pe_bits (pe_w (X := X) (e := o)) hbase hline).run pins s σ H Q II ?_
  refine ho _ m F env st σ H _ at0 (Post.bind h fun x st1 m1 F1 H1 v e1 l1 S1 r1 h1 => ?_)
  cases r1 with
  | int i => exact ⟨i, rfl, h1 m1 F1 H1 _ Le.refl S1 (.int _)⟩
  | _ => exact h1.elim
/-- text.count(sub) -/
def mCount : D → List D → List O → R D := fun o ys st => match o, ys with
  | .str a, [.str b] => .ok (.int (Txt.count a b)) st
  | _, _ => .no
theorem md_count : MtR X "str.count" (rM T mCount) := by
  intro pins s σ H x vs v us Q I rx rv h
  obtain ⟨G, m, F, st, o, ds, S, r1, r2, p⟩ := h
  unfold mCount at p
  split at p
  · cases r1
    cases r2 with
    | cons r3 r4 =>
      cases r4
      cases r3
      exact mt_count pins s σ H _ _ v us Q I rx rv ⟨_, _, rfl, rfl, p m F H _ Le.refl S (.int _)⟩
  · exact p.elim

/-! ### a value told anew: name op= e -/
def sAug (i : Nat) (g : D → D → List O → R D) (d : DE) : DS := fun env st => match env[i]? with
  | some (some x) => (d env st).thenS env fun y st1 => match g x y st1 with
    | .ok z st2 => .nx (env.set i (some z)) st2
    | _ => .no
  | _ => .no

/-! ### raise -/
/-- raise X('..'), X of the text's own over ValueError -/
def sRaise (c : Nat) : DS := fun env st => .ex ⟨c, none⟩ env st
theorem ss_raise {e : Expr} {pos : Pos} {c : Nat} (hc : X.calm = true) (tk : Takes X W) (he : PMk X e (fun _ H Q => Q (.ref (T.cad c)) none H)) : SS T X W (.Raise (some e) none pos) (sRaise c) := by
  refine ⟨?_⟩
  intro G m F env st σ H Dn at0 h pins s II
  refine (ps_raise hc tk he).run pins s σ H Dn II ?_
  exact h m F H σ _ none Le.refl at0 ⟨rfl, rfl⟩
end
end Den

namespace Den
open PySem PySem.Spec PyProof.Rows L2 RZ
/-! ### f'{n:b}' -/
def bSpec : Str := ⟨#[98]⟩
def bFmt : Builtin.Float.FormatSpec := { align := 62, type := some 98 }
def binS (a : Int) : Str := intField' bFmt (decide (a < 0)) [] ((Nat.toDigits 2 a.natAbs).map fun c => (if (98 : Nat) == 88 then c.toUpper else c).toNat) [] 4
theorem bFmt_of : Builtin.Float.parseFormatSpec [98] "int" 62 = .ok bFmt := by rfl
theorem gives_bin (a : Int) (t u : Tok) : Gives (Builtin.«int.__format__» ⟨[.int a t, .str bSpec u], []⟩) (.str (binS a)) := by
  intro prog w A R s hq
  unfold Builtin.«int.__format__»
  simp only [selfAndOne, noKeywords, Builtin.Int.intOfSelf, asInt?, asStr?, List.isEmpty_nil, if_true, pure_bind, bind_pure, bind_assoc, show (bSpec.length == 0) = false from rfl, Bool.false_eq_true, if_false,
    show (Value.str bSpec u == Value.none) = false from rfl]
  refine wpAny_bind (wpAny_typeNameOf (T := "str") (typeIs_str _ _ _) (by decide) fun _ => ?_)
  refine wpAny_bind (wpAny_typeNameOfCut_int ?_)
  simp only [show bSpec.cps.toList = [98] from rfl, bFmt_of]
  rw [if_pos (by decide)]
  have e0 : bFmt.type.getD (if (bSpec.cps.back? == some 0) = true then 0 else 100) = 98 := rfl
  rw [e0]
  refine thn (Q := fun fin s' => fin = .done (.ret (.str (binS a) s.toks)) ∧ s' = { s with toks := s.toks + 1 }) ?_ fun fin s' hh => ?_
  · with_unfolding_all exact wpAny_bind (wpAny_mkStr (wpAny_pure ⟨rfl, rfl⟩) hq.1)
  · obtain ⟨rfl, rfl⟩ := hh
    exact hq.2
section
variable {T : Tab} {X : Cx} {W : WX} {m m' : List Addr} {F F' H H' : Hp} {G : Frm} {st st' : List O}
/-- a value's text by the format b -/
def dBin (d : DE) : DE := fun env st => (d env st).bind fun x st1 => match x with
  | .int a => if (binS a).length ≤ sizeLine then .ok (.str (binS a)) st1 else .no
  | _ => .no
theorem se_joined1 {e : Expr} {pos : Pos} {d : DE} (he : SE T X W e d) : SE T X W (.JoinedStr [e] pos) d := ⟨fun G m F env st σ H Q a0 h pins s I => (pe_joined1 (pe_w (X := X) (e := e))).run pins s σ H Q I (he G m F env st σ H Q a0 h)⟩
theorem se_bin {e spec : Expr} {pos : Pos} {d : DE} (he : SE T X W e d) {z : Str} (hs : PE X spec (tC (.str z))) (hz : z = bSpec) : SE T X W (.FormattedValue e (-1) (some spec) pos) (dBin d) := by
  refine ⟨?_⟩
  intro G m F env st σ H Q at0 h pins s II
  refine wpAny_FormattedValue_spec ?_
  refine thn (he _ m F env st σ H (fun v H1 => ∃ a m1 F1 st1, v = .int a ∧ Le m F m1 F1 ∧ Sim T G m1 st1 F1 H1 ∧ (binS a).length ≤ sizeLine ∧ Q (.str (binS a)) H1) at0 (Post.bind h fun x st1 m1 F1 H1 v e1 l1 S1 r1 h1 => ?_) pins s II) fun u s1 got => ?_
  · cases r1 with
    | int a =>
      have h1 : Post T (RV T) G m1 F1 (if (binS a).length ≤ sizeLine then .ok (.str (binS a)) st1 else .no) Q (fun c da H' => W c da σ H') := h1
      split at h1
      · rename_i hl
        exact ⟨a, m1, F1, st1, rfl, l1, S1, hl, h1 m1 F1 H1 _ Le.refl S1 (.str _)⟩
      · exact h1.elim
    | _ => exact h1.elim
  · obtain ⟨v, H1, I1, r1, a, m1, F1, st1, ev, l1, S1, hl, hq⟩ := got
    subst ev
    obtain ⟨t, rfl⟩ := r1
    subst hz
    refine thn (hs.run pins s1 σ H1 (fun v H2 => v = .str bSpec ∧ H2 = H1) I1 ⟨rfl, rfl⟩) fun u s2 got => ?_
    · obtain ⟨v, H2, I2, r2, ev, eH⟩ := got
      subst ev eH
      obtain ⟨t2, rfl⟩ := r2
      refine ⟨bSpec, t2, rfl, ?_⟩
      refine wpAny_formatField_spec (T := "int") (sp := bSpec) (by rfl) (fun s' => typeIs_int s' a t) PySem.F.slot_int_format PySem.F.entry_int_format PySem.F.args_int_format_2 (fun u => gives_bin a t u) ?_ (by decide) hl
      exact ⟨.str (binS a), H2, I2.tok _, ⟨_, rfl⟩, hq⟩
end
end Den

namespace Den
open PySem PySem.Spec PyProof.Rows L2 RZ
/-! ### enumerate of a tuple, zip of a list and a tuple -/
theorem tupAt {K : PySem.W.Frag} {X : Cx} {pins : List (Addr × Obj)} {σ : L2.St} {H : Hp} {s : Shared} {a : Addr} {xs : List V} (I : Inv X pins σ H s) (h : SqT X.K H a xs) : ∃ its : List Value, Vals xs its ∧ s.heap.IsTuple a its.toArray := by
  obtain ⟨its, rv, p, hz⟩ := I.tuple h
  exact ⟨its, rv, p⟩
def ItEt (K : PySem.W.Frag) (a : Addr) : It :=
  ⟨fun i H => ∃ (xs : List V) (x : V), SqT K H a xs ∧ xs[i]? = some x, fun i H v H' => ∃ B x, v = .ref B ∧ H B = none ∧ H' = upd H B (.tup [.int (i : Nat), x]) ∧ ∀ xs, SqT K H a xs → xs[i]? = some x, fun i H => ∃ xs : List V, SqT K H a xs ∧ xs.length = i⟩
/-- two cells of unlike classes stand apart -/
theorem apart_cls {h : Heap} {a b : Addr} {o u : Obj} (h1 : h.get? a = some o) (h2 : h.get? b = some u) (d : o.cls ≠ u.cls) : a ≠ b := fun z => by
  subst z
  rw [h1] at h2
  cases h2
  exact d rfl
theorem turn_enumT {P : Program} {w : World} {K : PySem.W.Frag} {elts : List Expr} {kk : Nat} {tpos : Pos} (a e it : Addr) :
    Turn P w K (.Tuple elts kk tpos) (ItEt K a) [e, it] e (fun i h => (∃ old, IsEnum h e it (0 + ((i : Nat) : Int)) old) ∧ h.IsTupleIter it a i) where
  mem := by simp
  obj := fun i h st b hb => by
    obtain ⟨⟨old, he⟩, o, ho, hc, hd⟩ := st
    rcases (show b = e ∨ b = it by simpa using hb) with rfl | rfl
    · exact ⟨_, he, fun v q => nomatch q⟩
    · exact ⟨o, ho, fun v q => by rw [hd] at q; cases q⟩
  keep := fun i h h' st k => ⟨st.1.elim fun old he => ⟨old, k e (by simp) _ he⟩, st.2.at fun o q => k it (by simp) o q⟩
  item := by
    rintro X rfl rfl rfl hc i pins s σ H E I hf ⟨⟨old, he⟩, hit⟩ ⟨xs, x, hq, hx⟩
    obtain ⟨its, rv, hT⟩ := tupAt (K := X.K) I hq
    obtain ⟨u, hu, ru⟩ := rv.get hx
    obtain ⟨oi, hoi, hci, hdi⟩ := id hit
    obtain ⟨oa, hoa, hca, _⟩ := id hT
    have n1 : e ≠ it := apart_cls he hoi (by rw [hci]; exact (by decide : Value.type "enumerate" ≠ Value.type "tuple_iterator"))
    have n2 : a ≠ it := apart_cls hoa hoi (by rw [hca, hci]; decide)
    have n3 : e ≠ a := apart_cls he hoa (by rw [hca]; exact (by decide : Value.type "enumerate" ≠ Value.type "tuple"))
    have Gn := GoesN.enumFrom (prog := X.prog) (w := X.w) (A := X.A) (elts := elts) (x1 := kk) (pos := tpos) 0 (Draws.tuple (A := X.A.in1) (I.ok.hd hc) it a n2 its.toArray) e n1 (by simp [n1, n3]) (by simp)
    have hlt : i < its.toArray.size := by
      have := (List.getElem?_eq_some_iff.mp hu).1
      simpa using this
    refine Gn.goes i s _ E hlt ⟨⟨old, he⟩, hit, hT⟩ fun v h' tk y st' keep htk => ?_
    obtain ⟨B, t, z, rfl, hB, hz, hBt⟩ := y
    have ez : u = z := by
      have hz' : its[i]? = some z := by simpa using hz
      exact Option.some.inj (hu.symm.trans hz')
    subst ez
    have new : ObjOk X.prog X.w (upd H B (.tup [.int (i : Nat), x])) h' B (.tup [.int (i : Nat), x]) := ⟨by show 2 ≤ sizeLine; decide, [.int (0 + (i : Int)) t, u], .cons ⟨t, by rw [Int.zero_add]⟩ (.cons ru .nil), hBt⟩
    have I1 := I.turnedNew (t' := tk) (ch := [e, it]) keep hf hB new
    refine ⟨.ref B, _, I1, rfl, ⟨B, x, rfl, I.hok.fresh hB, rfl, fun ys hy => by rw [I.tuple_inj hy hq]; exact hx⟩, ⟨st'.1, st'.2.1⟩, fun b hb => ?_⟩
    have hlt' : b < s.heap.objs.size := by
      rcases (show b = e ∨ b = it by simpa using hb) with rfl | rfl
      · exact Heap.lt_size he
      · exact Heap.lt_size hoi
    rw [upd_ne (Nat.ne_of_lt (Nat.lt_of_lt_of_le hlt' hB))]
    exact (hf b hb).1
  done := by
    rintro X rfl rfl rfl hc i pins s σ H E I hf ⟨⟨old, he⟩, hit⟩ ⟨xs, hq, hx⟩
    obtain ⟨its, rv, hT⟩ := tupAt (K := X.K) I hq
    obtain ⟨oi, hoi, hci, hdi⟩ := id hit
    obtain ⟨oa, hoa, hca, _⟩ := id hT
    have n1 : e ≠ it := apart_cls he hoi (by rw [hci]; exact (by decide : Value.type "enumerate" ≠ Value.type "tuple_iterator"))
    have n2 : a ≠ it := apart_cls hoa hoi (by rw [hca, hci]; decide)
    have n3 : e ≠ a := apart_cls he hoa (by rw [hca]; exact (by decide : Value.type "enumerate" ≠ Value.type "tuple"))
    have hl := rv.length
    subst hx
    have Gn := GoesN.enumFrom (prog := X.prog) (w := X.w) (A := X.A) (elts := elts) (x1 := kk) (pos := tpos) 0 (Draws.tuple (A := X.A.in1) (I.ok.hd hc) it a n2 its.toArray) e n1 (by simp [n1, n3]) (by simp)
    have ez : its.toArray.size = xs.length := by simp [hl]
    rw [ez] at Gn
    exact Gn.stops s (fun s1 => Inv X pins σ H s1) E ⟨⟨old, he⟩, hit, hT⟩ fun h' tk keep _ => I.turnedL (ch := [e, it]) keep hf
  self := fun A i s Q E st h => st.1.elim fun old he => wpAny_pyIter_enum he h
set_option maxHeartbeats 1000000 in
theorem meets_enumT {v : Value} {o : Obj} {Hb : Heap → Prop} (B : Begins v o Hb) :
    Meets (Builtin.«enumerate.__new__» ⟨[.type "enumerate", v], []⟩) (fun _ R s => Hb s.heap ∧
      R (.ok (.ret (.ref (s.heap.push o).objs.size))) { s with heap := (s.heap.push o).push { cls := .type "enumerate", data := .fields #[.none, .bool false, .ref s.heap.objs.size, rawInt 0, .none, .none] } }) :=
  .of_wp fun prog w A R s h => by
    obtain ⟨hp, g, d, tk, os⟩ := s
    obtain ⟨h1, h⟩ := h
    have hsub := sub_enumerate
    have q1 : ∀ {A' : Around} {E : Value → Shared → Prop} {Q : Value → Shared → Prop}, Q (.ref hp.objs.size) ⟨hp.push o, g, d, tk, os⟩ → wpAny (model prog w) A' (pyIter v) Q E ⟨hp, g, d, tk, os⟩ := fun {A' E Q} q =>
      B.iter prog w A' E ⟨hp, g, d, tk, os⟩ Q h1 q
    wp_walk using q1
    refine wpAny_stack_any fun sk => wpAny_pure ?_
    split
    · rename_i c _ _ _ _ _
      cases (c == Value.type "enumerate") <;> (wp_walk using q1; exact ⟨_, rfl, h⟩)
    · (wp_walk using q1; exact ⟨_, rfl, h⟩)
theorem call_enumB {prog : Program} {w : World} {A : Around} {E : Value → Shared → Prop} {s : Shared} {v : Value} {o : Obj} {Hb : Heap → Prop} {Q : Value → Shared → Prop} (B : Begins v o Hb) (hb : Hb s.heap)
    (h : ∀ h', IsEnum h' (s.heap.objs.size + 1) s.heap.objs.size 0 .none → h'.get? s.heap.objs.size = some o → (∀ b u, s.heap.get? b = some u → h'.get? b = some u) → Q (.ref (s.heap.objs.size + 1)) { s with heap := h' }) :
    wpAny (model prog w) A (call (.type "enumerate") [v]) Q E s := by
  refine callType_new PySem.F.called_enumerate (by decide) (PySem.F.typeCall_enumerate_1 _) (PySem.F.newCall_enumerate_1 _) (fun obj => PySem.F.args_object_init_2 obj _) PySem.F.entry_enumerate_new (meets_enumT B) ⟨hb, ?_⟩
  have hz : (s.heap.push o).objs.size = s.heap.objs.size + 1 := Heap.size_push ..
  have he : IsEnum ((s.heap.push o).push { cls := .type "enumerate", data := .fields #[.none, .bool false, .ref s.heap.objs.size, rawInt 0, .none, .none] }) (s.heap.objs.size + 1) s.heap.objs.size 0 .none := by
    have z := Heap.get?_push_size (s.heap.push o) (o := { cls := .type "enumerate", data := .fields #[.none, .bool false, .ref s.heap.objs.size, rawInt 0, .none, .none] }) rfl
    rw [hz] at z
    exact z
  show _ ∧ _
  rw [hz]
  exact ⟨⟨_, he, rfl⟩, h _ he (Heap.get?_push_of_some _ (Heap.get?_push_size _ B.free)) fun b u x => Heap.get?_push_of_some _ (Heap.get?_push_of_some _ x)⟩
section
variable {T : Tab} {X : Cx} {W : WX} {m m' : List Addr} {F F' H H' : Hp} {G : Frm} {st st' : List O}
theorem yld_enumT {a : Addr} {vs : List V} {ds : List D} (h : SqT T.K F a vs) (r : Reps T m F ds vs) : Yld T (ItEt T.K a) (numD 0 ds) m F := fun G m' F' st' H' l S => by
  have hl : SqT T.K H' a vs := sqT_same S.sub (sqT_same l.F h)
  have r' := Reps.le l r
  refine ⟨fun i d e => ?_, ⟨vs, hl, by rw [numD_len, ← Reps.length r]⟩⟩
  rw [numD_get] at e
  cases q : ds[i]? with
  | none => rw [q] at e; cases e
  | some d0 =>
    rw [q] at e
    cases e
    obtain ⟨v, h1, h2⟩ := r'.get q
    refine ⟨⟨vs, v, hl, h1⟩, fun x H2 y => ?_⟩
    obtain ⟨A, z, rfl, hA, rfl, hz⟩ := y
    have e3 : v = z := Option.some.inj (h1.symm.trans (hz vs hl))
    subst e3
    obtain ⟨S2, l2, r2⟩ := S.newTup (ds := [.int (0 + (i : Nat)), d0]) (vs := [.int (i : Nat), v]) (.cons (by rw [Int.zero_add]; exact .int _) (.cons h2 .nil)) hA
    exact ⟨_, l2, S2, r2⟩
def iEnumT (da : DA) : DA := fun env st => (da env st).bind fun xs st1 => match xs with
  | [.tup ds] => .ok (numD 0 ds) st1
  | _ => .no
theorem si_enumT {e : Expr} {da : DA} {p pos tpos : Pos} {elts : List Expr} {kk : Nat} (hK : X.K = T.K) (hg : Gl X "enumerate") (hm : X.mg "enumerate" = none) (ha : SA T X W [e] da) (hs : starEach [e] X.env = [(false, eval e X.env)] := by exact star_of rfl) : SI T X W (.Tuple elts kk tpos) (.Call (.Name "enumerate" p) [e] [] pos) (iEnumT da) := by
  refine ⟨?_⟩
  intro G m F env st σ H R at0 h pins s I
  refine Call_ (ld_blt I hg hm boot_enumerate (PyProof.Rows.callWith_type1 (thn (ha _ m F env st σ H (fun vs H1 => ∃ a xs, vs = [.ref a] ∧ SqT X.K H1 a xs ∧ R (ItEt X.K a) H1) at0 (Post.bind h fun xs st1 m1 F1 H1 vs e1 l1 S1 r1 h1 => ?_) pos pins s I) fun us s1 got => ?_) hs rfl))
  · split at h1
    · cases r1 with
      | cons r1 r2 =>
        cases r2
        cases r1 with
        | tup g r => exact ⟨_, _, rfl, by rw [hK]; exact sqT_same S1.sub g, by rw [hK]; exact h1 m1 F1 H1 _ Le.refl S1 (yld_enumT g r)⟩
    · exact h1.elim
  · obtain ⟨vs, H1, I1, r1, a, xs, ev, hq, hR⟩ := got
    subst ev
    cases r1 with
    | cons ra rb =>
      cases rb
      cases ra
      obtain ⟨its, rv, hT⟩ := tupAt (K := X.K) I1 hq
      refine call_enumB (begins_tuple a its.toArray) hT fun h' he hi hk => wpAny_pyIter_enum he ?_
      have I2 : Inv X pins σ H1 { s1 with heap := h' } := I1.kept (t' := s1.toks) hk
      refine ⟨s1.heap.objs.size + 1, [s1.heap.objs.size + 1, s1.heap.objs.size], _, _, H1, rfl, I2, turn_enumT a (s1.heap.objs.size + 1) s1.heap.objs.size, ⟨⟨.none, he⟩, ⟨_, hi, rfl, rfl⟩⟩, fun b hb => ?_, hR⟩
      have hle : s1.heap.objs.size ≤ b := by
        rcases (show b = s1.heap.objs.size + 1 ∨ b = s1.heap.objs.size by simpa using hb) with z | z <;> rw [z]
        · exact Nat.le_add_right _ _
        · exact Nat.le_refl _
      exact I1.fpOk hle (I1.hok.fresh hle)
/-! zip of lists and tuples in any mix -/
def SqX (b : Bool) (K : PySem.W.Frag) (H : Hp) (a : Addr) (xs : List V) : Prop := if b = true then SqT K H a xs else SqL K H a xs
def IsSq (b : Bool) (h : Heap) (a : Addr) (items : Array Value) : Prop := if b = true then h.IsTuple a items else h.IsList a items
def IsSi (b : Bool) (h : Heap) (it a : Addr) (i : Nat) : Prop := if b = true then h.IsTupleIter it a i else h.IsListIter it a i
def siObj (b : Bool) (a : Addr) : Obj := if b = true then { cls := .type "tuple_iterator", data := .fields #[.ref a, .int 0 0] } else { cls := .type "list_iterator", data := .fields #[.ref a, .int 0 0] }
theorem sqx_at {pins : List (Addr × Obj)} {σ : L2.St} {s : Shared} {b : Bool} {a : Addr} {xs : List V} (I : Inv X pins σ H s) (h : SqX b X.K H a xs) : ∃ its : List Value, Vals xs its ∧ IsSq b s.heap a its.toArray := by
  cases b with
  | true => exact tupAt (K := X.K) I h
  | false => obtain ⟨its, rv, p, hz⟩ := I.list h; exact ⟨its, rv, p.isList⟩
theorem sqx_inj {pins : List (Addr × Obj)} {σ : L2.St} {s : Shared} {b : Bool} {a : Addr} {xs ys : List V} (I : Inv X pins σ H s) (h : SqX b X.K H a xs) (h' : SqX b X.K H a ys) : xs = ys := by
  cases b with
  | true => exact I.tuple_inj h h'
  | false => exact I.list_inj h h'
theorem begins_sq (b : Bool) (a : Addr) (items : Array Value) : Begins (.ref a) (siObj b a) fun h => IsSq b h a items := by
  cases b with
  | true => exact begins_tuple a items
  | false => exact begins_list a items
theorem draws_sq {prog : Program} {w : World} {A : Around} (b : Bool) (hh : A.handled = none) (it a : Addr) (hne : a ≠ it) (items : Array Value) : Draws prog w A it [it, a] items.size (fun i v => items[i]? = some v) (fun i h => IsSi b h it a i ∧ IsSq b h a items) := by
  cases b with
  | true => exact Draws.tuple hh it a hne items
  | false => exact Draws.list hh it a hne items
theorem isSi_obj {b : Bool} {h : Heap} {it a : Addr} {i : Nat} (x : IsSi b h it a i) : ∃ o, h.get? it = some o ∧ (o.cls = .type "tuple_iterator" ∨ o.cls = .type "list_iterator") ∧ ∀ v, o.data ≠ .cell v := by
  cases b with
  | true => obtain ⟨o, e, c, d⟩ := x; exact ⟨o, e, .inl c, fun v q => by rw [d] at q; cases q⟩
  | false => obtain ⟨o, e, c, d⟩ := x; exact ⟨o, e, .inr c, fun v q => by rw [d] at q; cases q⟩
theorem isSq_obj {b : Bool} {h : Heap} {a : Addr} {items : Array Value} (x : IsSq b h a items) : ∃ o, h.get? a = some o ∧ (o.cls = .type "tuple" ∨ o.cls = .type "list") := by
  cases b with
  | true => obtain ⟨o, e, c, d⟩ := x; exact ⟨o, e, .inl c⟩
  | false => obtain ⟨o, e, c, d⟩ := x; exact ⟨o, e, .inr c⟩
theorem isSi_at {b : Bool} {h h' : Heap} {it a : Addr} {i : Nat} (x : IsSi b h it a i) (k : ∀ o, h.get? it = some o → h'.get? it = some o) : IsSi b h' it a i := by
  cases b with
  | true => exact (show h.IsTupleIter it a i from x).at k
  | false => exact (show h.IsListIter it a i from x).at k
def ItZx (b c : Bool) (K : PySem.W.Frag) (a a' : Addr) : It :=
  ⟨fun i H => ∃ (xs ys : List V) (x y : V), SqX b K H a xs ∧ SqX c K H a' ys ∧ xs[i]? = some x ∧ ys[i]? = some y,
    fun i H v H' => ∃ B x y, v = .ref B ∧ H B = none ∧ H' = upd H B (.tup [x, y]) ∧ (∀ xs, SqX b K H a xs → xs[i]? = some x) ∧ ∀ ys, SqX c K H a' ys → ys[i]? = some y,
    fun i H => ∃ xs ys : List V, SqX b K H a xs ∧ SqX c K H a' ys ∧ min xs.length ys.length = i⟩
/-- an iterator's own cell is none of the sequences -/
theorem fp_ne {pins : List (Addr × Obj)} {σ : L2.St} {s : Shared} {b : Bool} {a c : Addr} {xs : List V} (I : Inv X pins σ H s) (f : FpOk X pins H c) (h : SqX b X.K H a xs) : a ≠ c := by
  obtain ⟨f0, f1, f2, f3, f4, f5⟩ := f
  have old : ∀ o, X.K.lookup a = some o → a ≠ c := fun o e z => by
    subst z
    have hb := I.mod.kin _ _ e
    rcases f3 with g | g
    · exact I.ok.noex a o hb g
    · exact Nat.lt_irrefl _ (Nat.lt_of_lt_of_le (Heap.lt_size hb) (Nat.le_trans I.ok.bsz g))
  cases b with
  | true =>
    rcases (show SqT X.K H a xs from h) with (q | ⟨o, q⟩) | ⟨o, _, _, q, _⟩
    · exact ne_of_none q f0
    · exact ne_of_none q f0
    · exact old o q
  | false =>
    rcases (show SqL X.K H a xs from h) with (q | ⟨o, q⟩) | ⟨o, _, _, q, _⟩
    · exact ne_of_none q f0
    · exact ne_of_none q f0
    · exact old o q
theorem zip_apart {b c : Bool} {a a' z TI TO i1 i2 : Addr} {N : Nat} (hN : z = N + 4 ∧ TI = N + 2 ∧ TO = N + 3 ∧ i1 = N ∧ i2 = N + 1) (n1 : ∀ d ∈ [z, TI, TO, i1, i2], a ≠ d) (n2 : ∀ d ∈ [z, TI, TO, i1, i2], a' ≠ d) : ZipSep2 z TI TO i1 i2 [i1, a] [i2, a'] := by
  obtain ⟨rfl, rfl, rfl, rfl, rfl⟩ := hN
  have e : ∀ x y : Nat, x ≠ y → (x : Addr) ≠ y := fun _ _ h => h
  refine ⟨e _ _ (by omega), e _ _ (by omega), e _ _ (by omega), e _ _ (by omega), by simp, ?_, ?_, e _ _ (by omega), by simp, ?_, ?_, ?_, ?_⟩
  all_goals (rw [List.mem_cons, List.mem_cons]; rintro (q | q | q))
  all_goals first
    | exact absurd q (e _ _ (by omega))
    | exact n1 _ (by simp) q.symm
    | exact n2 _ (by simp) q.symm
    | cases q
theorem turn_zipX {P : Program} {w : World} {K : PySem.W.Frag} {elts : List Expr} {kk : Nat} {tpos : Pos} {b c : Bool} {a a' z TI TO i1 i2 : Addr} {N : Nat} (hN : z = N + 4 ∧ TI = N + 2 ∧ TO = N + 3 ∧ i1 = N ∧ i2 = N + 1) :
    Turn P w K (.Tuple elts kk tpos) (ItZx b c K a a') [z, TI, TO, i1, i2] z (fun i h => IsZip h z TI TO .none ∧ IsTupOf2 h TI (.ref i1) (.ref i2) ∧ (∃ a1 a2, IsTupOf2 h TO a1 a2) ∧ IsSi b h i1 a i ∧ IsSi c h i2 a' i) where
  mem := by simp
  obj := by
    rintro i h ⟨hz, hTI, ⟨x, y, hTO⟩, h1, h2⟩ d hd
    obtain ⟨o1, e1, _, d1⟩ := isSi_obj h1
    obtain ⟨o2, e2, _, d2⟩ := isSi_obj h2
    rcases (show d = z ∨ d = TI ∨ d = TO ∨ d = i1 ∨ d = i2 by simpa using hd) with q | q | q | q | q <;> rw [q]
    · exact ⟨_, hz, fun v q => nomatch q⟩
    · exact ⟨_, hTI, fun v q => nomatch q⟩
    · exact ⟨_, hTO, fun v q => nomatch q⟩
    · exact ⟨o1, e1, d1⟩
    · exact ⟨o2, e2, d2⟩
  keep := by
    rintro i h h' ⟨hz, hTI, ⟨x, y, hTO⟩, h1, h2⟩ k
    exact ⟨k z (by simp) _ hz, k TI (by simp) _ hTI, ⟨x, y, k TO (by simp) _ hTO⟩, isSi_at h1 fun o q => k i1 (by simp) o q, isSi_at h2 fun o q => k i2 (by simp) o q⟩
  item := by
    rintro X rfl rfl rfl hc i pins s σ H E I hf ⟨hz, hTI, hTO, h1, h2⟩ ⟨xs, ys, x, y, hq1, hq2, hx, hy⟩
    obtain ⟨its, rv, hS⟩ := sqx_at I hq1
    obtain ⟨its', rv', hS'⟩ := sqx_at I hq2
    obtain ⟨u, hu, ru⟩ := rv.get hx
    obtain ⟨u', hu', ru'⟩ := rv'.get hy
    have S := zip_apart (b := b) (c := c) hN (fun d hd => fp_ne I (hf d hd) hq1) (fun d hd => fp_ne I (hf d hd) hq2)
    have Gn := GoesN.zip2 (prog := X.prog) (w := X.w) (A := X.A) (elts := elts) (x1 := kk) (pos := tpos) S (draws_sq (A := X.A.in1) b (I.ok.hd hc) i1 a (fp_ne I (hf i1 (by simp)) hq1) its.toArray) (draws_sq (A := X.A.in1) c (I.ok.hd hc) i2 a' (fp_ne I (hf i2 (by simp)) hq2) its'.toArray)
    have l1 := (List.getElem?_eq_some_iff.mp hu).1
    have l2 := (List.getElem?_eq_some_iff.mp hu').1
    refine Gn.goes i s _ E (by simp; omega) ⟨hz, hTI, hTO, ⟨h1, hS⟩, ⟨h2, hS'⟩⟩ fun v h' tk yy st' keep htk => ?_
    obtain ⟨B, z1, z2, rfl, hB, hz1, hz2, hBt⟩ := yy
    have ez1 : u = z1 := Option.some.inj (hu.symm.trans (show its[i]? = some z1 by simpa using hz1))
    have ez2 : u' = z2 := Option.some.inj (hu'.symm.trans (show its'[i]? = some z2 by simpa using hz2))
    subst ez1 ez2
    have new : ObjOk X.prog X.w (upd H B (.tup [x, y])) h' B (.tup [x, y]) := ⟨by show 2 ≤ sizeLine; decide, [u, u'], .cons ru (.cons ru' .nil), hBt⟩
    have I1 := I.turnedNew (t' := tk) (ch := [z, TO, i1, i2]) keep (fun d hd => hf d (by simp at hd ⊢; rcases hd with q | q | q | q <;> simp [q])) hB new
    refine ⟨.ref B, _, I1, rfl, ⟨B, x, y, rfl, I.hok.fresh hB, rfl, fun ys hy' => by rw [sqx_inj I hy' hq1]; exact hx, fun ys hy' => by rw [sqx_inj I hy' hq2]; exact hy⟩, ⟨st'.1, st'.2.1, st'.2.2.1, st'.2.2.2.1.1, st'.2.2.2.2.1⟩, fun d hd => ?_⟩
    have hlt' : d < s.heap.objs.size := by
      obtain ⟨o1, e1, _, d1⟩ := isSi_obj h1
      obtain ⟨o2, e2, _, d2⟩ := isSi_obj h2
      obtain ⟨x0, y0, hTO'⟩ := hTO
      rcases (show d = z ∨ d = TI ∨ d = TO ∨ d = i1 ∨ d = i2 by simpa using hd) with q | q | q | q | q <;> rw [q]
      · exact Heap.lt_size hz
      · exact Heap.lt_size hTI
      · exact Heap.lt_size hTO'
      · exact Heap.lt_size e1
      · exact Heap.lt_size e2
    rw [upd_ne (Nat.ne_of_lt (Nat.lt_of_lt_of_le hlt' hB))]
    exact (hf d hd).1
  done := by
    rintro X rfl rfl rfl hc i pins s σ H E I hf ⟨hz, hTI, hTO, h1, h2⟩ ⟨xs, ys, hq1, hq2, hx⟩
    obtain ⟨its, rv, hS⟩ := sqx_at I hq1
    obtain ⟨its', rv', hS'⟩ := sqx_at I hq2
    have S := zip_apart (b := b) (c := c) hN (fun d hd => fp_ne I (hf d hd) hq1) (fun d hd => fp_ne I (hf d hd) hq2)
    have Gn := GoesN.zip2 (prog := X.prog) (w := X.w) (A := X.A) (elts := elts) (x1 := kk) (pos := tpos) S (draws_sq (A := X.A.in1) b (I.ok.hd hc) i1 a (fp_ne I (hf i1 (by simp)) hq1) its.toArray) (draws_sq (A := X.A.in1) c (I.ok.hd hc) i2 a' (fp_ne I (hf i2 (by simp)) hq2) its'.toArray)
    have en : min its.toArray.size its'.toArray.size = i := by
      rw [← hx, rv.length, rv'.length]
      simp
    rw [en] at Gn
    exact Gn.stops s (fun s1 => Inv X pins σ H s1) E ⟨hz, hTI, hTO, ⟨h1, hS⟩, ⟨h2, hS'⟩⟩ fun h' tk keep _ => I.turnedL (ch := [z, TO, i1, i2]) keep fun d hd => hf d (by simp at hd ⊢; rcases hd with q | q | q | q <;> simp [q])
  self := fun A i s Q E st h => wpAny_pyIter_zip st.1 h
def seqX (d : D) : Option (Bool × List D) := match d with
  | .tup xs => some (true, xs)
  | .lst xs => some (false, xs)
  | .rol xs => some (false, xs)
  | _ => none
theorem seqX_rep {d : D} {v : V} {b : Bool} {xs : List D} (r : Rep T m F d v) (e : seqX d = some (b, xs)) : ∃ a vs, v = .ref a ∧ SqX b T.K F a vs ∧ Reps T m F xs vs := by
  cases r with
  | tup g r => cases e; exact ⟨_, _, rfl, g, r⟩
  | lst g r => cases e; exact ⟨_, _, rfl, SqL.of g, r⟩
  | rol g r => cases e; exact ⟨_, _, rfl, g, r⟩
  | _ => cases e
theorem sqx_same {b : Bool} {K : PySem.W.Frag} {a : Addr} {xs : List V} (e : Same H H') (h : SqX b K H a xs) : SqX b K H' a xs := by
  cases b with
  | true => exact sqT_same e h
  | false => exact e.seq h
theorem zipD_min : ∀ xs ys : List D, (zipD xs ys).length = min xs.length ys.length
  | [], ys => by simp [zipD]
  | x :: xs, [] => by simp [zipD]
  | x :: xs, y :: ys => by
    show (zipD xs ys).length + 1 = min (xs.length + 1) (ys.length + 1)
    rw [zipD_min xs ys]
    omega
theorem yld_zipX {b c : Bool} {a a' : Addr} {vs ws : List V} {ds es : List D} (h : SqX b T.K F a vs) (h' : SqX c T.K F a' ws) (r : Reps T m F ds vs) (r' : Reps T m F es ws) : Yld T (ItZx b c T.K a a') (zipD ds es) m F := fun G m' F' st' H' l S => by
  have ha : SqX b T.K H' a vs := sqx_same S.sub (sqx_same l.F h)
  have hb : SqX c T.K H' a' ws := sqx_same S.sub (sqx_same l.F h')
  have ra := Reps.le l r
  have rb := Reps.le l r'
  refine ⟨fun i d e => ?_, ⟨vs, ws, ha, hb, by rw [zipD_min, ← Reps.length r, ← Reps.length r']⟩⟩
  obtain ⟨x, y, h1, h2, h3⟩ := zipD_get ds es i d e
  subst h3
  obtain ⟨v, g1, g2⟩ := ra.get h1
  obtain ⟨u, g3, g4⟩ := rb.get h2
  refine ⟨⟨vs, ws, v, u, ha, hb, g1, g3⟩, fun z H2 q => ?_⟩
  obtain ⟨A, z1, z2, rfl, hA, rfl, q1, q2⟩ := q
  have e1 : v = z1 := Option.some.inj (g1.symm.trans (q1 vs ha))
  have e2 : u = z2 := Option.some.inj (g3.symm.trans (q2 ws hb))
  subst e1 e2
  obtain ⟨S2, l2, r2⟩ := S.newTup (.cons g2 (.cons g4 .nil)) hA
  exact ⟨_, l2, S2, r2⟩
def iZipX (da : DA) : DA := fun env st => (da env st).bind fun xs st1 => match xs with
  | [x, y] => match seqX x, seqX y with
    | some (_, ds), some (_, es) => .ok (zipD ds es) st1
    | _, _ => .no
  | _ => .no
theorem si_zipX {e e2 : Expr} {da : DA} {p pos tpos : Pos} {elts : List Expr} {kk : Nat} (hK : X.K = T.K) (hg : Gl X "zip") (hm : X.mg "zip" = none) (ha : SA T X W [e, e2] da)
    (hs : starEach [e, e2] X.env = (false, eval e X.env) :: starEach [e2] X.env := by exact star_of rfl) (hpl : (backTo pos (starEach [e2] X.env)).any (·.1) = false := by exact hpl_of rfl) : SI T X W (.Tuple elts kk tpos) (.Call (.Name "zip" p) [e, e2] [] pos) (iZipX da) := by
  refine ⟨?_⟩
  intro G m F env st σ H R at0 h pins s I
  refine Call_ (ld_blt I hg hm PyProof.Rows.boot_zip (PyProof.Rows.callWith_type1 (thn (ha _ m F env st σ H (fun vs H1 => ∃ b c a a' xs ys, vs = [.ref a, .ref a'] ∧ SqX b X.K H1 a xs ∧ SqX c X.K H1 a' ys ∧ R (ItZx b c X.K a a') H1) at0 (Post.bind h fun xs st1 m1 F1 H1 vs e1 l1 S1 r1 h1 => ?_) pos pins s I) fun us s1 got => ?_) hs hpl))
  · split at h1
    · rename_i x y
      cases r1 with
      | cons ra r1 =>
        cases r1 with
        | cons rb r1 =>
          cases r1
          split at h1
          · rename_i b ds c es e1 e2
            obtain ⟨a, vs, rfl, g1, g2⟩ := seqX_rep ra e1
            obtain ⟨a', ws, rfl, g3, g4⟩ := seqX_rep rb e2
            exact ⟨b, c, a, a', vs, ws, rfl, by rw [hK]; exact sqx_same S1.sub g1, by rw [hK]; exact sqx_same S1.sub g3, by rw [hK]; exact h1 m1 F1 H1 _ Le.refl S1 (yld_zipX g1 g3 g2 g4)⟩
          · exact h1.elim
    · exact h1.elim
  · obtain ⟨vs, H1, I1, r1, b, c, a, a', xs, ys, ev, hq1, hq2, hR⟩ := got
    subst ev
    cases r1 with
    | cons ra rb =>
      cases rb with
      | cons rb rc =>
        cases rc
        cases ra
        cases rb
        obtain ⟨its, rv, hS⟩ := sqx_at I1 hq1
        obtain ⟨its', rv', hS'⟩ := sqx_at I1 hq2
        refine zip_begins2 (begins_sq b a its.toArray) (begins_sq c a' its'.toArray) hS hS' fun h' hz hTI hTO h1 h2 hsz hk => wpAny_pyIter_zip hz ?_
        have I2 : Inv X pins σ H1 { s1 with heap := h' } := I1.kept (t' := s1.toks) hk
        refine ⟨s1.heap.objs.size + 4, [s1.heap.objs.size + 4, s1.heap.objs.size + 2, s1.heap.objs.size + 3, s1.heap.objs.size, s1.heap.objs.size + 1], _, _, H1, rfl, I2, turn_zipX (b := b) (c := c) (N := s1.heap.objs.size) ⟨rfl, rfl, rfl, rfl, rfl⟩, ⟨hz, hTI, ⟨_, _, hTO⟩, ?_, ?_⟩, fun d hd => ?_, hR⟩
        · cases b with
          | true => exact ⟨_, h1, rfl, rfl⟩
          | false => exact ⟨_, h1, rfl, rfl⟩
        · cases c with
          | true => exact ⟨_, h2, rfl, rfl⟩
          | false => exact ⟨_, h2, rfl, rfl⟩
        · have hle : s1.heap.objs.size ≤ d := by
            rcases (show d = s1.heap.objs.size + 4 ∨ d = s1.heap.objs.size + 2 ∨ d = s1.heap.objs.size + 3 ∨ d = s1.heap.objs.size ∨ d = s1.heap.objs.size + 1 by simpa using hd) with z | z | z | z | z <;> rw [z]
            · exact Nat.le_add_right _ _
            · exact Nat.le_add_right _ _
            · exact Nat.le_add_right _ _
            · exact Nat.le_refl _
            · exact Nat.le_add_right _ _
          exact I1.fpOk hle (I1.hok.fresh hle)
end
end Den

namespace Den
open PySem PySem.Spec PyProof.Rows L2 RZ
section
variable {T : Tab} {X : Cx} {W : WX} {m m' : List Addr} {F F' H H' : Hp} {G : Frm} {st st' : List O}
/-! ### isinstance, built-in classes -/
def tyN (d : D) (st : List O) : Option String := match d with
  | .non => some "NoneType"
  | .bl _ => some "bool"
  | .int _ => some "int"
  | .str _ => some "str"
  | .tup _ => some "tuple"
  | .lst _ => some "list"
  | .rol _ => some "list"
  | .dct0 => some "dict"
  | .cel n => match st[n]? with
    | some (.lst _) => some "list"
    | some (.lent _) => some "list"
    | _ => none
  | _ => none
theorem tyN_rep {d : D} {v : V} {a : String} (S : Sim T G m st F H) (r : Rep T m F d v) (e : tyN d st = some a) : TyX T.K H v (.type a) := by
  have tupC : ∀ {b : Addr} {xs : List V}, SqT T.K H b xs → TyX T.K H (.ref b) (.type "tuple") := fun {b xs} h => by
    rcases h with (q | ⟨o, q⟩) | ⟨o, its, n, q, c, _⟩
    · exact .base (.tup q)
    · exact .fTuple q
    · exact .kTuple q c
  have lstC : ∀ {b : Addr} {xs : List V}, SqL T.K H b xs → TyX T.K H (.ref b) (.type "list") := fun {b xs} h => by
    rcases h with (q | ⟨o, q⟩) | ⟨o, its, n, q, c, _⟩
    · exact .base (.lst q)
    · exact .base (.frz q)
    · exact .kList q c
  cases r with
  | non => cases e; exact .base .non
  | bl b => cases e; exact .base (.bl b)
  | int i => cases e; exact .base (.int i)
  | str x => cases e; exact .base (.str x)
  | tup h r => cases e; exact tupC (sqT_same S.sub h)
  | lst h r => cases e; exact lstC (SqL.of (S.sub _ _ h))
  | rol h r => cases e; exact lstC (S.sub.seq h)
  | cel h =>
    rename_i n b
    cases hq : st[n]? with
    | none => simp only [tyN, hq] at e; cases e
    | some o =>
      cases o with
      | lst xs =>
        simp only [tyN, hq] at e
        cases e
        obtain ⟨vs, h1, h2, h3⟩ := S.cells _ _ _ hq h
        exact lstC (SqL.of h1)
      | ins c fs => simp only [tyN, hq] at e; cases e
      | lent xs =>
        simp only [tyN, hq] at e
        cases e
        obtain ⟨vs, h1, h2, h3⟩ := S.cells _ _ _ hq h
        exact lstC (SqL.of h1)
  | dct0 h => cases e; exact .base (.dK (S.sub _ _ h))
  | _ => cases e
/-- whether a is b, or below it -/
def subB (a b : String) : Option Bool := if a = b then some true else match a, b with
  | "bool", "int" => some true
  | "NoneType", "int" => some false | "NoneType", "str" => some false | "NoneType", "tuple" => some false | "NoneType", "list" => some false | "NoneType", "dict" => some false | "NoneType", "bool" => some false
  | "bool", "str" => some false | "bool", "tuple" => some false | "bool", "list" => some false | "bool", "dict" => some false
  | "int", "str" => some false | "int", "tuple" => some false | "int", "list" => some false | "int", "dict" => some false | "int", "bool" => some false
  | "str", "int" => some false | "str", "tuple" => some false | "str", "list" => some false | "str", "dict" => some false | "str", "bool" => some false
  | "tuple", "int" => some false | "tuple", "str" => some false | "tuple", "list" => some false | "tuple", "dict" => some false | "tuple", "bool" => some false
  | "list", "int" => some false | "list", "str" => some false | "list", "tuple" => some false | "list", "dict" => some false | "list", "bool" => some false
  | "dict", "int" => some false | "dict", "str" => some false | "dict", "tuple" => some false | "dict", "list" => some false | "dict", "bool" => some false
  | _, _ => none
theorem subB_kit {a b : String} {r : Bool} (h : subB a b = some r) : kitB a b = some r := by
  unfold subB at h
  split at h
  · rename_i e
    subst e
    cases h
    unfold kitB
    rw [if_pos (beq_self_eq_true _)]
  · split at h <;> first | (cases h; decide +kernel) | cases h
def bIsi : List D → List O → R D := fun xs st => match xs with
  | [x, .ty b] => match tyN x st with
    | some a => match subB a b with
      | some r => .ok (.bl r) st
      | none => .no
    | none => .no
  | _ => .no
theorem bd_isi (hK : X.K = T.K) : CallD T X (.builtin "isinstance") bIsi := by
  intro pins s σ H xs us Q I r h
  obtain ⟨G, m, F, st, ds, S, r1, p⟩ := h
  unfold bIsi at p
  split at p
  · cases r1 with
    | cons ra rb =>
      cases rb with
      | cons rb rc =>
        cases rc
        cases rb
        split at p
        · rename_i a ha
          split at p
          · rename_i k hk
            exact call_isi pins s σ H _ us Q I r ⟨_, _, _, _, k, rfl, .ty _, by rw [hK]; exact tyN_rep S ra ha, kit_ty (subB_kit hk), p m F H _ Le.refl S (.bl _)⟩
          · exact p.elim
        · exact p.elim
  · exact p.elim
/-! ### range with a step of minus one, sorted downward -/
def iRangeD (da : DA) : DA := fun env st => (da env st).bind fun xs st1 => match xs with
  | [.int i, .int j, .int c] => if smallI i && smallI j && decide (c = -1) then .ok (rngD i (-1) (i - j).toNat) st1 else .no
  | _ => .no
theorem si_rangeD {tg a b c : Expr} {da : DA} {p pos : Pos} (hg : Gl X "range") (hm : X.mg "range" = none) (ha : SA T X W [a, b, c] da)
    (hs : starEach [a, b, c] X.env = (false, eval a X.env) :: starEach [b, c] X.env := by exact star_of rfl) (hpl : (backTo pos (starEach [b, c] X.env)).any (·.1) = false := by exact hpl_of rfl) : SI T X W tg (.Call (.Name "range" p) [a, b, c] [] pos) (iRangeD da) := by
  refine ⟨?_⟩
  intro G m F env st σ H R at0 h pins s I
  refine (pi_range3 hg hm (pa_w (X := X) (es := [a, b, c])) hs hpl).run pins s σ H R I ?_
  refine ha _ m F env st σ H _ at0 (Post.bind h fun xs st1 m1 F1 H1 vs e1 l1 S1 r1 h1 => ?_)
  split at h1
  · cases r1 with
    | cons ra r1 =>
      cases r1 with
      | cons rb r1 =>
        cases r1 with
        | cons rc r1 =>
          cases r1
          cases ra
          cases rb
          cases rc
          split at h1
          · rename_i i j c hij
            simp only [Bool.and_eq_true, decide_eq_true_eq] at hij
            obtain ⟨z1, z2⟩ := smallI_ok hij.1.1
            obtain ⟨z3, z4⟩ := smallI_ok hij.1.2
            have ec := hij.2
            subst ec
            exact ⟨i, j, -1, _, rfl, RgC.neg z1 z2 z3 z4, h1 m1 F1 H1 _ Le.refl S1 yld_rng⟩
          · exact h1.elim
  · exact h1.elim
def bSortedR (b : Bool) : List D → List O → R D := fun xs st => match xs with
  | [d] => match lstOf d st with
    | some ys => match intsD ys with
      | some ns => .ok (.lst ((if b then (sortI ns).reverse else sortI ns).map D.int)) st
      | none => .no
    | none => .no
  | _ => .no
theorem ordB_one {b : Bool} {l ns : List Int} (hp : l.Perm ns) (ho : OrdB b l) : l = if b then (sortI ns).reverse else sortI ns := by
  cases b with
  | false => exact sorted_one (hp.trans (sortI_perm ns).symm) ho (sortI_sorted ns)
  | true =>
    have h1 : l.reverse = sortI ns := sorted_one ((List.reverse_perm l).trans (hp.trans (sortI_perm ns).symm)) (List.pairwise_reverse.mpr ho) (sortI_sorted ns)
    show l = (sortI ns).reverse
    rw [← h1, List.reverse_reverse]
theorem se_sortedR {e : Expr} {kpos p pos cpos : Pos} {b : Bool} {j : Nat} {da : DA} (hK : X.K = T.K) (hg : Gl X "sorted") (hm : X.mg "sorted" = none) (ha : SA T X W [e] da)
    (hp : PE X (.Call (.Name "sorted" p) [e] [⟨some "reverse", .Constant (.bool b) j cpos, kpos⟩] pos) (tCKw (rSortedKw X.K b [.bl b]) (wA X [e]) (tCons (tC (.bl b)) tNil))) :
    SE T X W (.Call (.Name "sorted" p) [e] [⟨some "reverse", .Constant (.bool b) j cpos, kpos⟩] pos) (dCall (bSortedR b) da) := by
  refine ⟨?_⟩
  intro G m F env st σ H Q at0 h pins s I
  refine hp.run pins s σ H Q I ?_
  refine ha _ m F env st σ H _ at0 (Post.bind h fun xs st1 m1 F1 H1 vs e1 l1 S1 r1 h1 => ?_)
  have h1 : Post T (RV T) G m1 F1 (bSortedR b xs st1) Q (fun _ _ _ => False) := h1.calm
  unfold bSortedR at h1
  split at h1
  · cases r1 with
    | cons ra r1 =>
      cases r1
      split at h1
      · rename_i ys hy
        split at h1
        · rename_i ns hn
          obtain ⟨q, vs, rfl, g1, g2⟩ := lstOf_rep S1 ra hy
          have ev := ints_rep g2 hn
          subst ev
          refine ⟨q, ns, rfl, rfl, SqL.of g1, fun ns' l hp ho hl => ?_⟩
          have e2 := ordB_one hp ho
          rw [e2]
          obtain ⟨S2, l2, r2⟩ := S1.newLst (ints_reps (ns := if b then (sortI ns).reverse else sortI ns)) hl
          exact h1 m1 _ _ _ l2 S2 r2
        · exact h1.elim
      · exact h1.elim
  · exact h1.elim
/-! ### a, b = x, y -/
def sPar (i j : Nat) (da : DA) : DS := fun env st => (da env st).thenS env fun xs st1 => match xs with
  | [x, y] => .nx ((env.set i (some x)).set j (some y)) st1
  | _ => .no
theorem ss_par {i j : Nat} {x y : Str} {a b : Expr} {da : DA} {px py pt : Pos} {kt k2 : Nat} {pt2 pos : Pos} (hc : X.calm = true) (hN : X.N.Nodup) (hi : X.N[i]? = some x) (hj : X.N[j]? = some y) (hij : i ≠ j)
    (hx : X.env.scope.names.lookup x = some .local) (hy : X.env.scope.names.lookup y = some .local) (ha : SA T X W [a, b] da)
    (hw : swappedStores [.Tuple [.Name x px, .Name y py] kt pt] (.Tuple [a, b] k2 pt2) X.env = pure (some [x, y]))
    (hs : swapsWithSole [.Tuple [.Name x px, .Name y py] kt pt] (.Tuple [a, b] k2 pt2) pos.line X.env = pure false := by rfl) : SS T X W (.Assign [.Tuple [.Name x px, .Name y py] kt pt] (.Tuple [a, b] k2 pt2) pos) (sPar i j da) := by
  refine ⟨?_⟩
  intro G m F env st σ H Dn at0 h pins s I
  refine (ps_par hc hN hi hj hij hx hy (pa_w (X := X) (es := [a, b])) hw hs).run pins s σ H Dn I ?_
  refine ha _ m F env st σ H _ at0 (PostS.ahead at0 h fun xs st1 m1 F1 H1 vs e1 l1 S1 r1 h1 => ?_)
  split at h1
  · cases r1 with
    | cons ra r1 =>
      cases r1 with
      | cons rb r1 =>
        cases r1
        refine ⟨_, _, rfl, h1 m1 F1 H1 _ Le.refl ⟨S1, ((at0.evr.le l1).set i at0.len ra).set j ?_ rb, ?_⟩⟩
        · simp only [List.length_set]; exact at0.len
        · simp only [List.length_set]; exact at0.len
  · exact h1.elim
end
set_option maxHeartbeats 4000000 in
/-- t * 1 is t itself; () * n, too -/
theorem tuple_mul_self (l : Addr) (items : Array Value) (n : Nat) (dd : Option Addr) (sl : Array (Option Value)) (x : Int) (u : Tok) (c0 : (decide (x < -(2 ^ 63)) || decide (x ≥ 2 ^ 63)) = false) (c1 : (items.isEmpty || x == 1) = true) :
    Meets (Builtin.«tuple.__mul__» ⟨[.ref l, .int x u], []⟩) (fun _ R s => s.heap.get? l = some { cls := .type "tuple", dict := dd, data := .seq items n, slots := sl } ∧ R (.ok (.ret (Value.ref l))) s) :=
  .of_wp fun prog w A R s h => by
    obtain ⟨hp, g, d, tk, os⟩ := s
    obtain ⟨hl, h⟩ := h
    have f1 := AutoSeq1.idx_int
    wp_walk using wpAny_loadPart' hl
    repeat (first
      | (refine wpAny_ite_false (decide_eq_false (by rw [c0]; exact Bool.false_ne_true)) ?_; wp_walk using wpAny_loadPart' hl)
      | (refine wpAny_ite_true (decide_eq_true c1) ?_; wp_walk using wpAny_loadPart' hl))
    exact ⟨_, rfl, h⟩

section
variable {T : Tab} {X : Cx} {W : WX} {m m' : List Addr} {F F' H H' : Hp} {G : Frm} {st st' : List O}
set_option maxHeartbeats 4000000 in
theorem rep_self {pins : List (Addr × Obj)} {s : Shared} {σ : L2.St} {l : Addr} {k : Int} {t : Tok} {xs : List V} {Q : VK} (I : Inv X pins σ H s) (hT : SqT X.K H l xs) (hk : (xs.isEmpty || k == 1) = true) (h0 : -(2 ^ 63) ≤ k) (h1 : k < 2 ^ 63) (hQ : Q (.ref l) H) :
    wpAny (model X.prog X.w) X.A (binaryOp .Mult (.ref l) (.int k t)) (EP X pins σ Q) X.xe s := by
  obtain ⟨its, r, ⟨⟨cls, dd, data, sl⟩, ho, hc, n, hd⟩, hs⟩ := I.tuple hT
  simp only at hc hd
  subst hc hd
  have c0 : (decide (k < -(2 ^ 63)) || decide (k ≥ 2 ^ 63)) = false := by
    rw [decide_eq_false (by omega), decide_eq_false (by omega)]
    rfl
  have c1 : (its.toArray.isEmpty || k == 1) = true := by
    have e : its.toArray.isEmpty = xs.isEmpty := by cases r <;> rfl
    rw [e]
    exact hk
  refine wpAny_binaryOp_repeat_ref (T := "tuple") (U := "int") (by decide) ⟨_, ho, rfl⟩ (fun s' => typeIs_int s' k t) noFill_tuple_mul PySem.F.fills_int_mul PySem.F.slot_int_rmul repeat_tuple PySem.F.slot_int_index.lookup ?_
  refine call_meets PySem.F.slot_int_rmul (typeIs_int s k t) PySem.F.entry_int_rmul (PySem.F.args_int_rmul_2 _ _) (int_rmul_tuple k t l its.toArray n dd sl) ⟨ho, rfl, ⟨_, ho, rfl⟩, ?_⟩
  exact call_meets PySem.F.slot_tuple_mul ⟨_, ho, rfl⟩ PySem.F.entry_tuple_mul (PySem.F.args_tuple_mul_2 _ _) (tuple_mul_self l its.toArray n dd sl k t c0 c1) ⟨ho, ⟨.ref l, H, I, rfl, hQ⟩⟩
/-- a * b, tuples any number of times -/
def oMult : D → D → List O → R D := fun x y st => match x, y with
  | .tup xs, .int k => if (xs.isEmpty || k == 1) && decide (-(2 ^ 63) ≤ k) && decide (k < 2 ^ 63) then .ok (.tup xs) st else oMul (.tup xs) (.int k) st
  | x, y => oMul x y st
theorem od_mult (hK : X.K = T.K) : OpD T X (binaryOp .Mult) oMult := by
  intro pins s σ H x y v u Q I rx ry q
  obtain ⟨G, m, F, st, dx, dy, S, r1, r2, p⟩ := q
  unfold oMult at p
  split at p
  · split at p
    · rename_i xs k hk
      simp only [Bool.and_eq_true, decide_eq_true_eq] at hk
      cases r1 with
      | tup g r =>
        cases r2
        cases rx
        obtain ⟨t, rfl⟩ := ry
        refine rep_self I (by rw [hK]; exact sqT_same S.sub g) ?_ hk.1.2 hk.2 (p m F H _ Le.refl S (.tup g r))
        have e : xs.isEmpty = List.isEmpty _ := r.isEmpty
        rw [← e]
        exact hk.1.1
    · exact od_mul hK pins s σ H x y v u Q I rx ry ⟨G, m, F, st, _, _, S, r1, r2, p⟩
  · exact od_mul hK pins s σ H x y v u Q I rx ry ⟨G, m, F, st, _, _, S, r1, r2, p⟩
end
end Den

namespace Den
open PySem PySem.Spec PyProof.Rows L2

/-! ### except clauses, with a name or without -/
/-- an exception of the body has been caught -/
structure Caught (X : Cx) (pins : List (Addr × Obj)) (σ : L2.St) (H : Hp) (a : Addr) (cls : Value) (d : Option Addr) (sI s : Shared) (B : Heap) : Prop where
  ok : X.Ok
  inv : Inv X pins σ H sI
  nb : ∀ b o, sI.heap.get? b = some o → b ∉ frs X.stack → B.get? b = some o
  fl : HandSPX.FlyingZ B (X.env :: X.outer) a (Zc cls d) s.heap
  up : sI.heap.UpToSlots s.heap
  na : H a = none
  os : s.os = sI.os
  ag : AllBare s.gens
section
variable {X : Cx} {pins : List (Addr × Obj)} {σ : L2.St} {H : Hp} {a : Addr} {cls : Value} {d : Option Addr} {sI s : Shared} {B : Heap}
theorem Caught.frame (C : Caught X pins σ H a cls d sI s B) : a ∉ frs (X.env :: X.outer) := fun hm => by
  obtain ⟨oe, vs, he, hz, hd⟩ := C.fl.there
  obtain ⟨_, o', e', hnf⟩ := C.fl.2.2.1.mem hm
  rw [he] at e'
  cases e'
  exact hnf _ hd
/-- the suite may begin -/
theorem Caught.suite (C : Caught X pins σ H a cls d sI s B) (hf : X.env.frame = some X.env.locals) : ∃ oe vs, s.heap.get? a = some oe ∧ Zc cls d oe ∧ oe.data = .fields vs ∧ Inv (X.suite a ((a, oe) :: (X.pn ++ pins))) [] σ H s := by
  obtain ⟨oe, vs, he, hz, hd⟩ := C.fl.there
  have nfr := C.frame
  have J : Inv X pins σ H s := C.inv.landed C.nb C.fl.1 C.up C.os C.ag
  refine ⟨oe, vs, he, hz, hd, J.suite he hd C.na ?_ ?_⟩
  · exact fun z => nfr (List.mem_filterMap.mpr ⟨X.env, List.mem_cons_self, by rw [hf, z]⟩)
  · intro hm
    obtain ⟨e, he', q⟩ := List.mem_filterMap.mp hm
    exact nfr (List.mem_filterMap.mpr ⟨e, List.mem_cons_of_mem _ he', q⟩)
end
/-- the clauses hds do as w says -/
def Hdl (X : Cx) (hds : List ExceptHandler) (w : Ends → WX) : Prop := ∀ pins σ H a cls d sI s B D, Caught X pins σ H a cls d sI s B → w D cls d σ H →
  wpAny (model X.prog X.w) X.A (handleBy (.ref a) X.env hds) (SP X pins D) X.xe s
section
variable {X : Cx}
theorem hdl_nil {Wout : WX} (hs : X.stack = X.env :: X.outer) (hf : X.env.frame = some X.env.locals) (tk : Takes X Wout) : Hdl X [] fun _ => Wout := by
  intro pins σ H a cls d sI s B D C w
  refine wpAny_handleBy_nil ?_
  obtain ⟨k1, k2, k3, oe, vs, T, oT, ts', he, hz, hd, h1, hr⟩ := id C.fl
  unfold PySem.passOn
  refine wpAny_bind (wpAny_field he hd h1 ?_)
  rw [if_neg (show ¬ ((Value.ref T == Value.none) = true) by simp)]
  have on : wpAny (model X.prog X.w) X.A (setFlight (.ref a) X.env.frame) (fun _ s4 => wpAny (model X.prog X.w) X.A (throw (.ref a) : Sem Flow) (SP X pins D) X.xe s4) X.xe s := by
    rw [hf]
    exact HandSPX.setFlight_upZ C.fl fun h4 hh4 up4 => wpAny_throw (tk _ _ ⟨a, B, sI, pins, σ, H, cls, d, rfl, C.inv, C.nb, C.up.trans up4, .inr (.inr (by rw [hs]; exact hh4)), C.na, C.os, C.ag, w⟩)
  first
    | exact wpAny_bind (wpAny_pure (wpAny_bind on))
    | exact wpAny_bind on
/-- the ends of a suite, slot i emptied -/
def Ends.gone (i : Nat) (D : Ends) : Ends := { nx := fun σ H => D.nx (σ.set i none) H, rt := D.rt, bk := fun σ H => D.bk (σ.set i none) H, ct := fun σ H => D.ct (σ.set i none) H }
def wClause (K : PySem.W.Frag) (c : Value) (ts : Addr → Value → Option Addr → TS) (w : Ends → WX) : Ends → WX := fun D cls d σ H =>
  ∃ b, PySem.W.exmOne K cls c = some b ∧ (b = true → ∀ a, H a = none → ts a cls d D σ H) ∧ (b = false → w D cls d σ H)
def wClauseAs (K : PySem.W.Frag) (c : Value) (i : Nat) (ts : Addr → Value → Option Addr → TS) (w : Ends → WX) : Ends → WX := fun D cls d σ H =>
  ∃ b, PySem.W.exmOne K cls c = some b ∧ (b = true → ∀ a, H a = none → ts a cls d (Ends.gone i D) (σ.set i (some (.ref a))) H) ∧ (b = false → w D cls d σ H)
/-- the class that the clause names -/
theorem clause_name {x : Str} {c : Value} {np : Pos} {pins : List (Addr × Obj)} {σ : L2.St} {H : Hp} {a : Addr} {oe : Obj} {s : Shared} {Q E : Value → Shared → Prop} (hc : Names X x c) (S : Inv (X.suite a ((a, oe) :: (X.pn ++ pins))) [] σ H s) (q : Q c s) :
    wpAny (model X.prog X.w) (X.A.mark (some (.ref a))) (eval (.Name x np) X.env) Q E s := by
  obtain ⟨g, nd, m | ⟨m, v, nn⟩⟩ := hc
  · exact ld_glob (X := X.suite a ((a, oe) :: (X.pn ++ pins))) S g m q nd
  · exact ld_blt (X := X.suite a ((a, oe) :: (X.pn ++ pins))) S g m v q nn nd
abbrev SuiteOk (X : Cx) (ss : List Stmt) (ts : Addr → Value → Option Addr → TS) : Prop := ∀ (a : Addr) (oe : Obj) (cls : Value) (d : Option Addr) (pn : List (Addr × Obj)), Zc cls d oe → (∃ vs, oe.data = .fields vs) → PSs (X.suite a ((a, oe) :: pn)) ss (ts a cls d)
/-- what a suite leaves, seen from outside of it -/
theorem suite_out {a : Addr} {q : Addr × Obj} {pins : List (Addr × Obj)} {D : Ends} {f : Flow} {s : Shared} (ok : X.Ok) (h : SP (X.suite a (q :: (X.pn ++ pins))) [] D f s) : SP X pins D f s := by
  cases f with
  | ret u => obtain ⟨v, σ', H', J, r, z⟩ := h; exact ⟨v, σ', H', J.unsuite ok, r, z⟩
  | next => obtain ⟨σ', H', J, z⟩ := h; exact ⟨σ', H', J.unsuite ok, z⟩
  | brk => obtain ⟨σ', H', J, z⟩ := h; exact ⟨σ', H', J.unsuite ok, z⟩
  | cont => obtain ⟨σ', H', J, z⟩ := h; exact ⟨σ', H', J.unsuite ok, z⟩
theorem hdl_cons {x : Str} {c : Value} {ts : Addr → Value → Option Addr → TS} {b₀ : Stmt} {suite : List Stmt} {np pos' : Pos} {hds : List ExceptHandler} {w : Ends → WX} (hf : X.env.frame = some X.env.locals) (hc : Names X x c) (hsu : SuiteOk X (b₀ :: suite) ts) (r : Hdl X hds w) :
    Hdl X (.ExceptHandler (some (.Name x np)) none (b₀ :: suite) pos' :: hds) (wClause X.K c ts w) := by
  rintro pins σ H a cls d sI s B D C ⟨b, hb, yes, no⟩
  obtain ⟨oe, vs, he, hz, hd, S⟩ := C.suite hf
  refine wpAny_handleBy_cons (codeAny_handlers_test (clause_name hc S ?_)) (by intro q; cases q)
  have L : PySem.W.Looks (model X.prog X.w) s.heap (typeOf (.ref a)) cls := fun _ _ _ _ k q => wpAny_typeOf_ref (k _ _ he) (by rw [hz.1]; exact q)
  refine (PySem.W.exm_one (M := model X.prog X.w) S.kIn L hb).here ?_
  cases b with
  | false => exact r pins σ H a cls d sI s B D C (no rfl)
  | true =>
    refine codeAny_handlers_suite (HandSPX.lands_againZ C.fl fun h4 fl4 up4 => ?_)
    have C4 : Caught X pins σ H a cls d sI { s with heap := h4 } B := ⟨C.ok, C.inv, C.nb, fl4, C.up.trans up4, C.na, C.os, C.ag⟩
    obtain ⟨oe4, vs4, he4, hz4, hd4, S4⟩ := C4.suite hf
    exact wpAny_mono ((hsu a oe4 cls d (X.pn ++ pins) hz4 ⟨_, hd4⟩).run [] _ σ H D S4 (yes rfl a C.na)) (fun f s6 z => suite_out C.ok z) fun _ _ z => z.elim
theorem hdl_as {x n : Str} {c : Value} {i : Nat} {ts : Addr → Value → Option Addr → TS} {b₀ : Stmt} {suite : List Stmt} {np pos' : Pos} {hds : List ExceptHandler} {w : Ends → WX} (hf : X.env.frame = some X.env.locals) (hN : X.N.Nodup) (hi : X.N[i]? = some n) (hn : X.env.kindOf n = some .local) (hc : Names X x c)
    (hsu : SuiteOk X (b₀ :: suite) ts) (r : Hdl X hds w) : Hdl X (.ExceptHandler (some (.Name x np)) (some n) (b₀ :: suite) pos' :: hds) (wClauseAs X.K c i ts w) := by
  rintro pins σ H a cls d sI s B D C ⟨b, hb, yes, no⟩
  obtain ⟨oe, vs, he, hz, hd, S⟩ := C.suite hf
  refine wpAny_handleBy_cons (codeAny_handlers_test (clause_name hc S ?_)) (by intro q; cases q)
  have L : PySem.W.Looks (model X.prog X.w) s.heap (typeOf (.ref a)) cls := fun _ _ _ _ k q => wpAny_typeOf_ref (k _ _ he) (by rw [hz.1]; exact q)
  refine (PySem.W.exm_one (M := model X.prog X.w) S.kIn L hb).here ?_
  cases b with
  | false => exact r pins σ H a cls d sI s B D C (no rfl)
  | true =>
    refine codeAny_handlers_suite_as (HandSPX.lands_againZ C.fl fun h4 fl4 up4 => ?_)
    have C4 : Caught X pins σ H a cls d sI { s with heap := h4 } B := ⟨C.ok, C.inv, C.nb, fl4, C.up.trans up4, C.na, C.os, C.ag⟩
    obtain ⟨oe4, vs4, he4, hz4, hd4, S4⟩ := C4.suite hf
    refine store_ok (X := X.suite a ((a, oe4) :: (X.pn ++ pins))) (v := .ref a) S4 hN hi (.inl hn) rfl (fun s5 S5 => ?_) (.inr hn)
    refine wpAny_mono ((hsu a oe4 cls d (X.pn ++ pins) hz4 ⟨_, hd4⟩).run [] s5 _ H _ S5 (yes rfl a C.na)) (fun f s6 z => ?_) fun _ _ z => z.elim
    have z := suite_out C.ok z
    cases f with
    | ret u => obtain ⟨v, σ', H', J, r, z⟩ := z; exact gone_ok J hN hi hn fun s7 J7 => ⟨v, _, H', J7, r, z⟩
    | next => obtain ⟨σ', H', J, z⟩ := z; exact gone_ok J hN hi hn fun s7 J7 => ⟨_, H', J7, z⟩
    | brk => obtain ⟨σ', H', J, z⟩ := z; exact gone_ok J hN hi hn fun s7 J7 => ⟨_, H', J7, z⟩
    | cont => obtain ⟨σ', H', J, z⟩ := z; exact gone_ok J hN hi hn fun s7 J7 => ⟨_, H', J7, z⟩
theorem try_out {pins pn' : List (Addr × Obj)} {xe : Value → Shared → Prop} {D : Ends} {f : Flow} {s : Shared} (ok : X.Ok) (h : SP (X.tr (X.pn ++ pins) xe) pn' D f s) : SP X pins D f s := by
  cases f with
  | ret u => obtain ⟨v, σ', H', J, r, z⟩ := h; exact ⟨v, σ', H', J.ofTry ok, r, z⟩
  | next => obtain ⟨σ', H', J, z⟩ := h; exact ⟨σ', H', J.ofTry ok, z⟩
  | brk => obtain ⟨σ', H', J, z⟩ := h; exact ⟨σ', H', J.ofTry ok, z⟩
  | cont => obtain ⟨σ', H', J, z⟩ := h; exact ⟨σ', H', J.ofTry ok, z⟩
theorem ps_tryH {body : List Stmt} {h₀ : ExceptHandler} {hds : List ExceptHandler} {pos : Pos} {tb : WX → TS} {w : Ends → WX} (hs : X.stack = X.env :: X.outer) (hf : X.env.frame = some X.env.locals)
    (hb : ∀ (W : WX) (pn : List (Addr × Obj)) (xe : Value → Shared → Prop), Takes (X.tr pn xe) W → PassesOwn (model X.prog X.w) X.A X.env xe → PSs (X.tr pn xe) body (tb W))
    (hh : Hdl X (h₀ :: hds) w) : PS X (.Try body (h₀ :: hds) [] [] pos) (fun D σ H => tb (w D) D σ H) := by
  refine ⟨fun pins s σ H D I h => wpAny_Try_except ?_⟩
  have hfr : X.A.frames = some (X.env :: X.outer) := by rw [I.ok.frames, hs]
  refine wpAny_mono ((hb (w D) (X.pn ++ pins) (fun e s1 => wpAny (model X.prog X.w) X.A (noteFrame e X.env) (fun _ s2 => wpAny (model X.prog X.w) X.A (setFlight e none) (fun _ s3 => wpAny (model X.prog X.w) X.A (handleBy e X.env (h₀ :: hds)) (SP X pins D) X.xe s3) X.xe s2) X.xe s1) (fun u s' q => ?_) PassesOwn.looking).run [] s σ H D (I.toTry _) h) (fun f s1 z => ?_) fun _ _ z => z
  · obtain ⟨a, B, sI, pins', σ', H', cls, d, rfl, J, nb, up, sky, na, os, ag, w⟩ := q
    have J := J.ofTry I.ok
    have sky : Sky B X.stack a (Zc cls d) X.env.locals s'.heap := sky
    have nb : ∀ b o, sI.heap.get? b = some o → b ∉ frs X.stack → B.get? b = some o := nb
    rw [hs] at sky
    refine Sky.land Zc.steady hfr hf sky fun h3 fl3 up3 => ?_
    exact hh pins σ' H' a cls d sI { s' with heap := h3 } B D ⟨I.ok, J, nb, fl3, up.trans up3, na, os, ag⟩ w
  · have z := try_out I.ok z
    cases f with
    | next => exact wpAny_execs_nil z
    | ret u => exact z
    | brk => exact z
    | cont => exact z
end
end Den

namespace Den
open PySem PySem.W PySem.Calls PySem.Spec PyProof.Rows PySem.HandSPX
/-! ### an exception class of the text's own, with one field that its __init__ is handed -/
def isRefV : Value → Bool
  | .ref _ => true
  | _ => false
theorem refs_has {t : List Value} {Y : String} : ∀ {l : List Value}, l.dropWhile isRefV = t → l.contains (.type Y) = t.contains (.type Y)
  | [], e => by rw [← e]; rfl
  | a :: r, e => by
    rw [List.dropWhile_cons] at e
    split at e
    · rename_i ha
      cases a <;> first | (cases ha; done) | skip
      rw [List.contains_cons, refs_has e]
      rfl
    · rw [e]
theorem refs_let (self : Value) {t : List Value} (pass : refuseLoop self "__setattr__" t = pure ()) : ∀ {l : List Value}, l.dropWhile isRefV = t → refuseLoop self "__setattr__" l = pure ()
  | [], e => by rw [← e] at pass; exact pass
  | a :: r, e => by
    rw [List.dropWhile_cons] at e
    split at e
    · rename_i ha
      cases a <;> first | (cases ha; done) | skip
      rw [refuseLoop_ref]
      exact refs_let self pass e
    · rw [e]; exact pass
section
open Builtin Builtin.ObjectAttr
variable {prog : Program} {w : World} {A : Around} {R : Result → Shared → Prop} {hp : Heap} {g : Array GenState} {d : Drawn} {t : Nat} {os : OsState}
/-- self.name = v on a fresh exception of such a class -/
theorem set_fresh {K : PySem.W.Frag} {name : Str} {tk : Tok} {v : Value} {x C : Addr} {fv : Array Value} {cd : ClassData} (kin : K.In hp) (at_x : hp.get? x = some { cls := .ref C, data := .fields fv }) (ccd : clsIn K C = some cd)
    (lets : ∀ self, refuseLoop self "__setattr__" cd.mro = pure ()) (obj : cd.mro.contains (.type "object") = true) (dct : cd.hasDict = true) (none_ : findIn K (.ref C) name = some none)
    (next : ∀ h' tk' dx, (∀ b o, b ≠ x → hp.get? b = some o → h'.get? b = some o) → hp.objs.size ≤ dx → dx ≠ x → h'.get? x = some { cls := .ref C, dict := some dx, data := .fields fv } → h'.Ns1 dx (fun y => if y = name then some v else none) → R (.ok (.ret .none)) ⟨h', g, d, tk', os⟩) :
    codeAny (model prog w) A (.call (.builtin "object.__setattr__") ⟨[.ref x, .str name tk, v], []⟩) R ⟨hp, g, d, t, os⟩ := by
  have ix : InstAt hp x { cls := .ref C, data := .fields fv } C none := ⟨at_x, rfl, rfl, trivial⟩
  have ne : cd.mro.isEmpty = false := by
    cases q : cd.mro with
    | nil => rw [q] at obj; cases obj
    | cons _ _ => rfl
  have far : hp.objs.size ≠ x := (Nat.ne_of_lt (Heap.lt_size at_x)).symm
  have isO : Looks (model prog w) hp (isInstance (.ref x) (.type "object")) true := ix.type.andThen (looks_mroIn kin (by unfold mroIn; rw [ccd, Option.bind_some, if_neg (by rw [ne]; decide), obj]))
  have so := PySem.F.store_object
  refine codeAny_call_builtin so.slot.plain so.entry (@check_slot (model prog w) _ _ ⟨hp, g, d, t, os⟩ "object.__setattr__" "object" "__setattr__" (.ref x) [.str name tk, v] [] _ so.kind so.split isO (so.args (.ref x) (.str name tk) v) ?_)
  have its : Looks (model prog w) hp (mroOf (.ref C)) cd.mro := (looks_clsIn kin ccd).andThen .now
  have noT : Looks (model prog w) hp (storeTaker? none) none := .now
  have cl : Looks (model prog w) hp (classData C) cd := looks_clsIn kin ccd
  rw [osa_eq, refuse_eq]
  refine wpAny_bind (wpAny_bind (ix.type.at (wpAny_bind (its.at ?_))))
  rw [lets]
  refine wpAny_pure ?_
  refine wpAny_bind (ix.type.at (wpAny_bind ((looks_findIn kin none_).at (wpAny_bind (noT.at ?_)))))
  show wpAny _ _ (storeInOwnDict (.ref x) (.ref C) (.str name tk) name v false) _ _ _
  obtain ⟨nm, bs, mro, ns, qn, hd, sn, sb, ab, col, del⟩ := cd
  dsimp only at dct
  subst dct
  unfold storeInOwnDict ownDictForStores
  repeat (first | with_reducible refine store_in_new ?_ ?_ | with_reducible refine wpAny_loadPart_at at_x ?_ | with_reducible refine cl.at ?_ | wp_step)
  · exact ⟨_, #[], _, (Heap.get?_update_ne _ _ _ _ far).trans (Heap.get?_push_at rfl rfl), rfl, fun e he => absurd he (by simp), fun _ => rfl⟩
  · intro h' tk' nsd sb
    refine next h' tk' hp.objs.size (fun b o hb ho => ?_) (Nat.le_refl _) far ?_ nsd
    · exact (sb.2 b (Nat.ne_of_lt (Heap.lt_size ho))).trans ((Heap.get?_update_ne _ _ _ _ hb).trans (Heap.get?_push_of_some _ ho))
    · exact (sb.2 x far.symm).trans (Heap.get?_update_self _ (Heap.get?_push_of_some _ at_x) rfl)
end
/-! the text of __init__(self, f): self.f = f -/
def initP (f : Str) (p1 p2 : Pos) : Arguments := { posonlyargs := [], args := [{ arg := "self", annotation := none, pos := p1 }, { arg := f, annotation := none, pos := p2 }], vararg := none, kwonlyargs := [], kw_defaults := [], kwarg := none, defaults := [] }
def initB (f : Str) (q1 q2 q3 q4 : Pos) : List Stmt := [.Assign [.Attribute (.Name "self" q1) f q2] (.Name f q3) q4]
def initS (f : Str) : Scope := { kind := .function, names := [(PySem.Str.ofString "self", .local), (f, .local)], isGenerator := false, isCoroutine := false, more := [] }
/-- what the text says of the class x, at C, and of its __init__, at fI -/
structure XfT (K : PySem.W.Frag) (mg : Str → Option Value) (bmB : List Value) (newId : String) (x f qual : Str) (C fI : Addr) : Prop where
  gC : mg x = some (.ref C)
  cls : ∃ nm q N bs bm sn sub ab col dd k0 k1 k2 k3 k5, K.lookup C = some (excClassObj nm q C N bs bm true sn sub ab col dd k0 k1 k2 k3 k5 newId) ∧ bm.dropWhile isRefV = bmB
  lets : ∀ self, refuseLoop self "__setattr__" bmB = pure ()
  ob : bmB.contains (.type "object") = true
  sa : findIn K (.ref C) "__setattr__" = some (some (.builtin "object.__setattr__"))
  noF : findIn K (.ref C) f = some none
  iC : findIn K (.ref C) "__init__" = some (some (.ref fI))
  tC : typeIn K (.ref fI) = some (.type "function")
  kC : keepIn K (.ref C) = true
  exC : subIn K (.ref C) (.type "BaseException") = some true
  tyC : typeIn K (.ref C) = some (.type "type")
  self : (("self" : Str) == f) = false
  dbg : (f == ("__debug__" : Str)) = false
  bind : ∀ (doc pm : Value) (an : Option Addr) (cdv ct : Value) (p1 p2 q1 q2 q3 q4 : Pos) (e : Addr) (v : Value), bindArgs (fnOf "__init__" qual (initP f p1 p2) (initB f q1 q2 q3 q4) (initS f) .none .none doc pm an cdv ct) ⟨[.ref e, v], []⟩ = pure [(("self" : Str), .ref e), (f, v)]
  fn : ∃ (oc : Value) (od : Option Addr) (doc pm : Value) (an : Option Addr) (cdv ct : Value) (osl : Array (Option Value)) (p1 p2 q1 q2 q3 q4 : Pos),
    K.lookup fI = some ⟨oc, od, .func (fnOf "__init__" qual (initP f p1 p2) (initB f q1 q2 q3 q4) (initS f) .none .none doc pm an cdv ct), osl⟩ ∧ codeIn K cdv qual = true
/-- a made exception -/
structure XfMade (h h' : Heap) (e C dx : Addr) (f : Str) (v : Value) : Prop where
  keep : ∀ b o, h.get? b = some o → h'.get? b = some o
  new : h.objs.size ≤ e
  obj : ∃ oe vs, h'.get? e = some oe ∧ oe.cls = .ref C ∧ oe.dict = some dx ∧ oe.data = .fields vs ∧ vs[1]? = some .none
  big : h.objs.size ≤ dx
  ne : dx ≠ e
  ns : h'.Ns1 dx (fun y => if y = f then some v else none)
section
variable {prog : Program} {w : World} {A : Around} {E : Value → Shared → Prop} {R : Result → Shared → Prop} {s : Shared} {K : PySem.W.Frag} {mg : Str → Option Value} {bmB : List Value} {newId initId B : String} {x f qual : Str} {C fI : Addr}
theorem xf_init (T : XfT K mg bmB newId x f qual C fI) {e t0 : Addr} {v : Value} (kin : K.In s.heap) (lim : s.heap.NoLimit) (he : s.heap.get? e = some (excO C t0)) (room : A.depth < recursionLimit)
    (next : ∀ h' tk dx, (∀ b o, b ≠ e → s.heap.get? b = some o → h'.get? b = some o) → h'.get? e = some { cls := .ref C, dict := some dx, data := .fields #[.ref t0, .none, .none, .none, .bool false, .none] } → s.heap.objs.size ≤ dx → dx ≠ e → h'.Ns1 dx (fun y => if y = f then some v else none) → R (.ok (.ret .none)) { s with heap := h', toks := tk }) :
    codeAny (model prog w) A (.call (.ref fI) ⟨[.ref e, v], []⟩) R s := by
  obtain ⟨oc, od, doc, pm, an, cdv, ct, osl, p1, p2, q1, q2, q3, q4, ho, hcd⟩ := T.fn
  obtain ⟨nm, q, N, bs, bm, sn, sub, ab, col, dd, k0, k1, k2, k3, k5, hC, hbm⟩ := T.cls
  have ccd : clsIn K C = some { name := nm, bases := bs, mro := .ref C :: bm, ns := N, qualname := q, hasDict := true, slotNames := sn, subclasses := sub, abstract := ab, collection := col, hasDel := false } := by unfold clsIn; rw [hC] <;> rfl
  have lk : (initS f).names.lookup f = some .local := by
    have z : (f == ("self" : Str)) = false := by rw [BEq.comm]; exact T.self
    show List.lookup f [(("self" : Str), NameKind.local), (f, NameKind.local)] = _
    simp [List.lookup, z]
  have lk0 : (initS f).names.lookup ("self" : Str) = some .local := rfl
  refine Att.call_fn (binds := [(("self" : Str), .ref e), (f, v)]) kin lim ho hcd room (BindsTo.of_eq (T.bind doc pm an cdv ct p1 p2 q1 q2 q3 q4 e v)) ?_ (fun s₁ IC => ?_) rfl rfl rfl
  · rw [List.all_cons, List.all_cons, List.all_nil, lk, lk0]
    rfl
  · obtain ⟨h₁, tk₁, rfl⟩ := IC.toInCall.same
    have kp : ∀ b o, s.heap.get? b = some o → h₁.get? b = some o := IC.toInCall.keep
    have hn := IC.toInCall.ns
    have kf : (envOfC qual (initS f) s.heap.objs.size fI cdv).kindOf f = some .local := lk
    have ks : (envOfC qual (initS f) s.heap.objs.size fI cdv).kindOf ("self" : Str) = some .local := rfl
    have mf : bindL (envOfC qual (initS f) s.heap.objs.size fI cdv).kindOf [(("self" : Str), Value.ref e), (f, v)] (fun _ => none) f = some v := by
      unfold bindL bindL bindL
      rw [kf, if_pos rfl, if_pos rfl]
    have nf : ¬ (("self" : Str) = f) := fun z => by
      have q := T.self
      rw [← z] at q
      exact absurd q (by decide)
    have ms : bindL (envOfC qual (initS f) s.heap.objs.size fI cdv).kindOf [(("self" : Str), Value.ref e), (f, v)] (fun _ => none) "self" = some (.ref e) := by
      unfold bindL bindL bindL
      rw [kf, ks, if_pos rfl, if_neg nf, if_pos rfl, if_pos rfl]
    refine wpAny_execs_cons (plainObj_wpAny_Assign_Attribute ?_)
    refine wpAny_Name (wpAny_loadName_local (by rfl) kf hn mf ?_) T.dbg
    refine wpAny_Name (wpAny_loadName_local (by rfl) ks hn ms ?_) (by decide)
    have kin1 := kin.keeps kp
    have he1 := kp _ _ he
    refine set_plain kin1 (ox := excO C t0) (od := none) ⟨he1, rfl, rfl, trivial⟩ T.sa ?_
    refine set_fresh kin1 he1 ccd (fun self => ?_) ?_ rfl T.noF fun h' tk' dx k' big ne at_e ns => ?_
    · rw [refuseLoop_ref]
      exact refs_let self (T.lets self) hbm
    · rw [List.contains_cons, refs_has hbm, T.ob, Bool.or_true]
    · refine wpAny_execs_nil (next h' tk' dx (fun b o hb q => k' b o hb (kp b o q)) at_e ?_ ne ns)
      exact Nat.le_trans (Nat.le_of_lt hn.lt) big
theorem xf_made (Fb : ExcBaseFacts B newId initId bmB) (T : XfT K mg bmB newId x f qual C fI) {v : Value} (kin : K.In s.heap) (lim : s.heap.NoLimit) (room : A.depth + 1 < recursionLimit)
    (next : ∀ h' tk e dx, XfMade s.heap h' e C dx f v → R (.ok (.ret (.ref e))) { s with heap := h', toks := tk }) : codeAny (model prog w) A (.call (.ref C) ⟨[v], []⟩) R s := by
  obtain ⟨nm, q, N, bs, bm, sn, sub, ab, col, dd, k0, k1, k2, k3, k5, hC, hbm⟩ := T.cls
  obtain ⟨hp, g, dr, tk, os⟩ := s
  have kp : ∀ b o, hp.get? b = some o → ((hp.push (kdv_tup [v])).push (excO C hp.objs.size)).get? b = some o := fun b o z => Heap.get?_push_of_some _ (Heap.get?_push_of_some _ z)
  have made : ((hp.push (kdv_tup [v])).push (excO C hp.objs.size)).get? (hp.objs.size + 1) = some (excO C hp.objs.size) := by heap_get
  refine call_own Fb (fun Y => refs_has hbm) (kin _ _ hC) (looks_findIn kin T.iC) (fun self => bind_fn kin self T.tC) (show [v].length ≤ sizeLine by rw [sizeLine_eq]; exact (by decide : 1 ≤ 16777216)) ?_
  refine xf_init (s := ⟨(hp.push (kdv_tup [v])).push (excO C hp.objs.size), g, dr, tk, os⟩) T (kin.keeps kp) (lim.keeps kp) made (show A.depth + 1 < recursionLimit from room) fun h' tk' dx k' at_e big ne ns => ?_
  refine ⟨rfl, next h' tk' (hp.objs.size + 1) dx ⟨fun b o z => k' b o (Nat.ne_of_lt (Nat.lt_succ_of_lt (Heap.lt_size z))) (kp b o z), Nat.le_succ _, ⟨_, _, at_e, rfl, rfl, rfl, rfl⟩, ?_, ne, ns⟩⟩
  have z : ((hp.push (kdv_tup [v])).push (excO C hp.objs.size)).objs.size = hp.objs.size + 1 + 1 := by rw [Heap.size_push, Heap.size_push]
  have big : ((hp.push (kdv_tup [v])).push (excO C hp.objs.size)).objs.size ≤ dx := big
  rw [z] at big
  exact Nat.le_trans (Nat.le_trans (Nat.le_succ _) (Nat.le_succ _)) big
end
section
open L2
variable {X : Cx} {bmB : List Value} {newId initId B : String} {x f qual : Str} {C fI : Addr}
theorem relO_one {v : V} {v' : Value} (r : RelV v v') (y : Str) : RelO (List.lookup y [(f, v)]) (if y = f then some v' else none) := by
  by_cases hy : y = f
  · subst hy
    rw [if_pos rfl, show List.lookup y [(y, v)] = some v by simp [List.lookup]]
    exact r
  · have q : (y == f) = false := by simpa using hy
    rw [if_neg hy, show List.lookup y [(f, v)] = none by simp [List.lookup, q]]
    trivial
/-- x(e): the exception, its field told by its dict -/
def tXfMk (C : Addr) (f : Str) (ta : TA) : L2.St → Hp → XK → Prop := fun σ H Q => ta σ H fun vs H1 => ∃ v, vs = [v] ∧ ∀ dx, H1 dx = none → Q (.ref C) (some dx) (upd H1 dx (.xd [(f, v)]))
theorem pmk_xf {a : Expr} {ta : TA} {p pos : Pos} {k : Nat} (Fb : ExcBaseFacts B newId initId bmB) (T : XfT X.K X.mg bmB newId x f qual C fI) (hr : Room k X.A) (ha : PA X [a] ta) (hg : Gl X x) (hdb : (x == ("__debug__" : Str)) = false)
    (hs : starEach (a :: []) X.env = (false, eval a X.env) :: starEach [] X.env := by exact star_of rfl) (hpl : (backTo pos (starEach [] X.env)).any (·.1) = false := by rfl) : PMk X (.Call (.Name x p) [a] [] pos) (tXfMk C f ta) := by
  intro pins s σ H Q I h
  refine wpAny_Call_Name_kw (ld_glob I hg T.gC ?_ hdb)
  refine PySem.W.callWith_K (h₀ := X.base) I.ok.mod.kin T.kC (thn (ha.run pos pins s σ H _ I h) fun us s1 got => ?_) hs hpl
  obtain ⟨vs, H1, I1, r1, v, rfl, q1⟩ := got
  refine ⟨I1.kIn, ?_⟩
  cases r1 with
  | cons rv rn =>
  rename_i v' us'
  cases rn
  show wpAny _ _ (call (.ref C) [v']) _ _ _
  have lim := I1.nolimit
  obtain ⟨hp, g, dr, tk, os⟩ := s1
  refine wpAny_call (xf_made Fb T I1.kIn lim (by have := hr.dp; omega) fun h' tk' e dx M => ?_)
  obtain ⟨oe, fv, hoe, hc, hd, hdat, h1⟩ := M.obj
  -- all but the exception itself
  obtain ⟨G', g1, g2⟩ := restrict h' fun b => decide (b ≠ e)
  have same : ∀ b, b ≠ e → G'.get? b = h'.get? b := fun b hb => g1 b (decide_eq_true hb)
  have gone : G'.get? e = none := g2 e (by simp)
  have lt : ∀ b o, hp.get? b = some o → b ≠ e := fun b o z => Nat.ne_of_lt (Nat.lt_of_lt_of_le (Heap.lt_size z) M.new)
  have keep : ∀ b o, hp.get? b = some o → G'.get? b = some o := fun b o z => (same b (lt b o z)).trans (M.keep b o z)
  have J : Inv X pins σ (upd H1 dx (.xd [(f, v)])) ⟨G', g, dr, tk', os⟩ := I1.laid (t' := tk') keep M.big ⟨_, M.ns.at fun o z => (same dx M.ne).trans z, fun y => relO_one rv y⟩
  refine ⟨e, oe, fv, ⟨G', g, dr, tk', os⟩, _, .ref C, some dx, rfl, J, fun b o z => ?_, gone, hoe, ⟨hc, hd⟩, hdat, h1, ?_, rfl, I1.bare, raises_own T.exC T.tyC, q1 dx (I1.hok.fresh M.big)⟩
  · by_cases hb : b = e
    · have z : G'.get? b = some o := z
      rw [hb, gone] at z
      cases z
    · exact (same b hb).symm.trans z
  · rw [upd_ne (Ne.symm M.ne)]
    exact I1.hok.fresh M.new
end
end Den
namespace Den
open PySem PySem.Spec PyProof.Rows L2 RZ
section
variable {T : Tab} {X : Cx} {W : WX} {m m' : List Addr} {F F' H H' : Hp} {G : Frm} {st st' : List O}
/-- raise x(e) -/
def sRaiseF (c : Nat) (f : Str) (d : DA) : DS := fun env st => (d env st).thenS env fun xs st1 => match xs with
  | [v] => .ex ⟨c, some [(f, v)]⟩ env st1
  | _ => .no
theorem ss_raiseF {bmB : List Value} {newId initId B : String} {x f qual : Str} {fI : Addr} {c k : Nat} {a : Expr} {d : DA} {p pos pos2 : Pos} (Fb : ExcBaseFacts B newId initId bmB) (Tx : XfT X.K X.mg bmB newId x f qual (T.cad c) fI) (hc : X.calm = true) (tk : Takes X W) (hr : Room k X.A)
    (ha : SA T X W [a] d) (hg : Gl X x) (hdb : (x == ("__debug__" : Str)) = false := by decide)
    (hs : starEach (a :: []) X.env = (false, eval a X.env) :: starEach [] X.env := by exact star_of rfl) (hpl : (backTo pos (starEach [] X.env)).any (·.1) = false := by rfl) : SS T X W (.Raise (some (.Call (.Name x p) [a] [] pos)) none pos2) (sRaiseF c f d) := by
  refine ⟨?_⟩
  intro G m F env st σ H Dn at0 h pins s II
  refine (ps_raise hc tk (pmk_xf Fb Tx hr (pa_w (X := X) (es := [a])) hg hdb hs hpl)).run pins s σ H Dn II ?_
  refine ha _ m F env st σ H _ at0 (PostS.ahead at0 h fun xs st1 m1 F1 H1 vs e1 l1 S1 r1 h1 => ?_)
  split at h1
  · rename_i v
    cases r1 with
    | cons ra rb =>
      cases rb
      refine ⟨_, rfl, fun dx hdx => ?_⟩
      obtain ⟨S2, l2⟩ := S1.laid (o := .xd [(f, _)]) hdx
      exact h1 m1 _ _ σ _ (some dx) l2 ⟨S2, at0.evr.le (l1.trans l2), at0.len⟩ ⟨rfl, dx, [(f, _)], rfl, upd_same, rfl, .cons (Rep.le l2 ra) .nil⟩
  · exact h1.elim
end
end Den

namespace Den
open PySem PySem.Spec PyProof.Rows L2 RZ
/-! ### a suite knows the exception that it is about -/
def Tab.wx (T : Tab) (xa : Option (Addr × Addr × Nat)) : Tab := { T with xa := xa }
def noX : Nat → D → Bool
  | 0, _ => false
  | f + 1, d => match d with
    | .tup xs => xs.all (noX f)
    | .lst xs => xs.all (noX f)
    | .rol xs => xs.all (noX f)
    | .ins _ xs => xs.all (noX f)
    | .exn _ _ => false
    | _ => true
def noXO : O → Bool
  | .lst xs => xs.all (noX 20)
  | .ins _ fs => fs.all fun p => noX 20 p.2
  | .lent xs => xs.all (noX 20)
def noXE : Option D → Bool
  | some d => noX 20 d
  | none => true
section
variable {T : Tab} {xa : Option (Addr × Addr × Nat)} {m m' : List Addr} {F F' H H' : Hp} {G : Frm} {st st' : List O}
mutual
theorem Rep.wx (h : T.xa = none) : ∀ {d : D} {v : V}, Rep T m F d v → Rep (T.wx xa) m F d v
  | _, _, .non => .non
  | _, _, .bl b => .bl b
  | _, _, .int i => .int i
  | _, _, .str x => .str x
  | _, _, .tup g r => .tup g (Reps.wx h r)
  | _, _, .lst g r => .lst g (Reps.wx h r)
  | _, _, .rol g r => .rol g (Reps.wx h r)
  | _, _, .cel g => .cel g
  | _, _, .fn n => Rep.fn (T := T.wx xa) n
  | _, _, .cls n => Rep.cls (T := T.wx xa) n
  | _, _, .ty s => .ty s
  | _, _, .ins g e r => Rep.ins (T := T.wx xa) g e (Reps.wx h r)
  | _, _, .dct0 g => .dct0 g
  | _, _, .lam g1 g2 => Rep.lam (T := T.wx xa) g1 g2
  | _, _, .exn e _ _ _ => by rw [h] at e; cases e
theorem Reps.wx (h : T.xa = none) : ∀ {ds : List D} {vs : List V}, Reps T m F ds vs → Reps (T.wx xa) m F ds vs
  | _, _, .nil => .nil
  | _, _, .cons g r => .cons (Rep.wx h g) (Reps.wx h r)
end
mutual
theorem Rep.unwx : ∀ (f : Nat) {d : D} {v : V}, Rep (T.wx xa) m F d v → noX f d = true → Rep T m F d v
  | 0, _, _, _, e => by simp only [noX] at e; cases e
  | f + 1, _, _, .non, _ => .non
  | f + 1, _, _, .bl b, _ => .bl b
  | f + 1, _, _, .int i, _ => .int i
  | f + 1, _, _, .str x, _ => .str x
  | f + 1, _, _, .tup g r, e => by simp only [noX] at e; exact .tup g (Reps.unwx f r e)
  | f + 1, _, _, .lst g r, e => by simp only [noX] at e; exact .lst g (Reps.unwx f r e)
  | f + 1, _, _, .rol g r, e => by simp only [noX] at e; exact .rol g (Reps.unwx f r e)
  | f + 1, _, _, .cel g, _ => .cel g
  | f + 1, _, _, .fn n, _ => Rep.fn (T := T) n
  | f + 1, _, _, .cls n, _ => Rep.cls (T := T) n
  | f + 1, _, _, .ty s, _ => .ty s
  | f + 1, _, _, .ins g n r, e => by simp only [noX] at e; exact Rep.ins (T := T) g n (Reps.unwx f r e)
  | f + 1, _, _, .dct0 g, _ => .dct0 g
  | f + 1, _, _, .lam g1 g2, _ => Rep.lam (T := T) g1 g2
  | f + 1, _, _, .exn _ _ _ _, e => by simp only [noX] at e; cases e
theorem Reps.unwx : ∀ (f : Nat) {ds : List D} {vs : List V}, Reps (T.wx xa) m F ds vs → ds.all (noX f) = true → Reps T m F ds vs
  | _, _, _, .nil, _ => .nil
  | f, _, _, .cons g r, e => by
    rw [List.all_cons, Bool.and_eq_true] at e
    exact .cons (Rep.unwx f g e.1) (Reps.unwx f r e.2)
end
theorem Sim.wx (h : T.xa = none) (S : Sim T G m st F H) : Sim (T.wx xa) G m st F H where
  frm := S.frm
  frl := S.frl
  gfr := S.gfr
  glr := S.glr
  gF := S.gF
  gl := S.gl
  sub := S.sub
  len := S.len
  cells := fun n o a e1 e2 => by
    have z := S.cells n o a e1 e2
    cases o with
    | lst xs => obtain ⟨vs, h1, h2, h3⟩ := z; exact ⟨vs, h1, h2.wx h, h3⟩
    | ins c fs => obtain ⟨dx, vs, h1, h2, h3, h4⟩ := z; exact ⟨dx, vs, h1, h2, h3.wx h, h4⟩
    | lent xs => obtain ⟨vs, h1, h2, h3⟩ := z; exact ⟨vs, h1, h2.wx h, h3⟩
  inj := S.inj
  there := S.there
  gnt := S.gnt
  lls := S.lls
  lnt := fun n a xs e1 e2 => by
    obtain ⟨vs, h1, h2⟩ := S.lnt n a xs e1 e2
    exact ⟨vs, h1, h2.wx h⟩
  fnt := S.fnt
  tab := S.tab
theorem Sim.unwx (S : Sim (T.wx xa) G m st F H) (ho : st.all noXO = true) : Sim T G m st F H where
  frm := S.frm
  frl := S.frl
  gfr := S.gfr
  glr := S.glr
  gF := S.gF
  gl := S.gl
  sub := S.sub
  len := S.len
  cells := fun n o a e1 e2 => by
    have z := S.cells n o a e1 e2
    have q : noXO o = true := List.all_eq_true.mp ho o (List.mem_of_getElem? e1)
    cases o with
    | lst xs => obtain ⟨vs, h1, h2, h3⟩ := z; exact ⟨vs, h1, h2.unwx 20 q, h3⟩
    | ins c fs =>
      obtain ⟨dx, vs, h1, h2, h3, h4⟩ := z
      refine ⟨dx, vs, h1, h2, h3.unwx 20 ?_, h4⟩
      rw [List.all_map]
      exact q
    | lent xs => obtain ⟨vs, h1, h2, h3⟩ := z; exact ⟨vs, h1, h2.unwx 20 q, h3⟩
  inj := S.inj
  there := S.there
  gnt := S.gnt
  lls := S.lls
  lnt := fun n a xs e1 e2 => by
    obtain ⟨vs, h1, h2⟩ := S.lnt n a xs e1 e2
    have q : noXO (.lent xs) = true := List.all_eq_true.mp ho _ (List.mem_of_getElem? e1)
    exact ⟨vs, h1, h2.unwx 20 q⟩
  fnt := S.fnt
  tab := S.tab
end
section
variable {T : Tab} {X : Cx} {W : WX} {m m' : List Addr} {F F' H H' : Hp} {G : Frm} {st st' : List O}
theorem At.cx {X' : Cx} {env : EV} {σ : L2.St} (a : At T X G m st F env σ H) : At T X' G m st F env σ H := ⟨a.sim, a.evr, a.len⟩
theorem PostS.cx {X' : Cx} {r : RS} {Dn : Ends} (h : PostS T X G m F r Dn W) : PostS T X' G m F r Dn W := by
  cases r with
  | nx e s => exact fun m2 F2 H2 σ l a => h m2 F2 H2 σ l a.cx
  | rt e s => exact h
  | bk e s => exact fun m2 F2 H2 σ l a => h m2 F2 H2 σ l a.cx
  | ct e s => exact fun m2 F2 H2 σ l a => h m2 F2 H2 σ l a.cx
  | ex x e s => exact fun m2 F2 H2 σ c da l a => h m2 F2 H2 σ c da l a.cx
  | no => exact h
/-- statements read where the state is known -/
def tDS (T : Tab) (X : Cx) (W : WX) (d : DS) : TS := fun Dn σ H => ∃ G m F env st, At T X G m st F env σ H ∧ PostS T X G m F (d env st) Dn W
theorem SSs.pss {X' : Cx} {ss : List Stmt} {d : DS} (h : SSs T X W ss d) : PSs X ss (tDS T X' W d) := ⟨fun pins s σ H Dn I ⟨G, m, F, env, st, a, p⟩ => h G m F env st σ H Dn a.cx p.cx pins s I⟩
/-- a suite may not raise -/
def RS.calm : RS → RS
  | .ex _ _ _ => .no
  | r => r
theorem PostS.calm {W' : WX} {r : RS} {Dn : Ends} (h : PostS T X G m F r.calm Dn W) : PostS T X G m F r Dn W' := by
  cases r with
  | ex x e s => exact h.elim
  | _ => exact h
/-- behind a suite: its name is empty, its exception forgotten -/
def RS.left (i : Nat) : RS → RS
  | .nx e s => if (e.set i none).all noXE && s.all noXO then .nx (e.set i none) s else .no
  | .bk e s => if (e.set i none).all noXE && s.all noXO then .bk (e.set i none) s else .no
  | .ct e s => if (e.set i none).all noXE && s.all noXO then .ct (e.set i none) s else .no
  | .rt d s => if noX 20 d && s.all noXO then .rt d s else .no
  | _ => .no
theorem EnvR.gone {env : EV} {σ : L2.St} (i : Nat) (h : EnvR T m F env σ) : EnvR T m F (env.set i none) (List.set σ i none) := fun j d e => by
  by_cases hj : j = i
  · subst hj
    by_cases hl : j < env.length
    · rw [List.getElem?_set_self hl] at e; cases e
    · rw [List.getElem?_eq_none (by simpa using hl)] at e; cases e
  · rw [List.getElem?_set_ne (Ne.symm hj)] at e ⊢
    exact h j d e
theorem EnvR.unwx {xa : Option (Addr × Addr × Nat)} {env : EV} {σ : L2.St} (h : EnvR (T.wx xa) m F env σ) (q : env.all noXE = true) : EnvR T m F env σ := fun j d e => by
  obtain ⟨v, h1, h2⟩ := h j d e
  exact ⟨v, h1, h2.unwx 20 (List.all_eq_true.mp q _ (List.mem_of_getElem? e))⟩
theorem EnvR.wx {xa : Option (Addr × Addr × Nat)} {env : EV} {σ : L2.St} (hx : T.xa = none) (h : EnvR T m F env σ) : EnvR (T.wx xa) m F env σ := fun j d e => by
  obtain ⟨v, h1, h2⟩ := h j d e
  exact ⟨v, h1, h2.wx hx⟩
theorem PostS.left {X' : Cx} {xa : Option (Addr × Addr × Nat)} {i : Nat} {r : RS} {Dn : Ends} (h : PostS T X G m F (r.left i) Dn W) : PostS (T.wx xa) X' G m F r (Ends.gone i Dn) W0 := by
  have step : ∀ {env : EV} {st : List O} {m2 : List Addr} {F2 H2 : Hp} {σ : L2.St}, ((env.set i none).all noXE && st.all noXO) = true → At (T.wx xa) X' G m2 st F2 env σ H2 → At T X G m2 st F2 (env.set i none) (List.set σ i none) H2 := fun q a => by
    rw [Bool.and_eq_true] at q
    exact ⟨a.sim.unwx q.2, (a.evr.gone i).unwx q.1, by simp only [List.length_set]; exact a.len⟩
  cases r with
  | nx e s =>
    unfold RS.left at h
    simp only at h
    split at h
    · rename_i q
      exact fun m2 F2 H2 σ l a => h m2 F2 H2 _ l (step q a)
    · exact h.elim
  | bk e s =>
    unfold RS.left at h
    simp only at h
    split at h
    · rename_i q
      exact fun m2 F2 H2 σ l a => h m2 F2 H2 _ l (step q a)
    · exact h.elim
  | ct e s =>
    unfold RS.left at h
    simp only at h
    split at h
    · rename_i q
      exact fun m2 F2 H2 σ l a => h m2 F2 H2 _ l (step q a)
    · exact h.elim
  | rt d s =>
    unfold RS.left at h
    simp only at h
    split at h
    · rename_i q
      rw [Bool.and_eq_true] at q
      exact fun m2 F2 H2 v l S r => h m2 F2 H2 v l (S.unwx q.2) (r.unwx 20 q.1)
    · exact h.elim
  | ex x e s => exact h.elim
  | no => exact h.elim
/-! ### try -/
/-- a clause: its class, its name's slot, its suite -/
abbrev Clause := Nat × Option Nat × DS
def hdGo (isub : Nat → Nat → Option Bool) (xfs : Nat → List Str) : List Clause → Xn → EV → List O → RS
  | [], x, env, st => .ex x env st
  | (j, i, d) :: r, x, env, st => match isub x.c j with
    | some true => match i with
      | none => (d env st).calm
      | some i => match x.fs with
        | some fs => if fs.map Prod.fst = xfs x.c then (d (env.set i (some (.exn x.c (fs.map Prod.snd)))) st).left i else .no
        | none => .no
    | some false => hdGo isub xfs r x env st
    | none => .no
def sTry (isub : Nat → Nat → Option Bool) (xfs : Nat → List Str) (b : DS) (l : List Clause) : DS := fun env st => match b env st with
  | .ex x env' st' => hdGo isub xfs l x env' st'
  | r => r
/-- what is known in a suite of the exception -/
structure Hot (T : Tab) (xa : Option (Addr × Addr × Nat)) (a : Addr) (oe : Obj) (cls : Value) (da : Option Addr) : Prop where
  z : Zc cls da oe
  f : ∃ vs, oe.data = .fields vs
  k : ∀ a' dx c, xa = some (a', dx, c) → a' = a ∧ cls = .ref (T.cad c) ∧ da = some dx
def SuiteD (T : Tab) (X : Cx) (ss : List Stmt) (d : DS) : Prop := ∀ xa a oe cls da pn, Hot T xa a oe cls da → SSs (T.wx xa) (X.suite a ((a, oe) :: pn)) W0 ss d
/-- the clauses, told -/
def Cls (T : Tab) (X : Cx) (W : WX) (isub : Nat → Nat → Option Bool) (hds : List ExceptHandler) (l : List Clause) : Prop := ∃ w, Hdl X hds w ∧
  ∀ x G m F env st σ H c da Dn, At T X G m st F env σ H → RepX T m F x c da H → PostS T X G m F (hdGo isub T.xfs l x env st) Dn W → w Dn c da σ H
theorem cls_nil {isub : Nat → Nat → Option Bool} (hs : X.stack = X.env :: X.outer) (hf : X.env.frame = some X.env.locals) (tk : Takes X W) : Cls T X W isub [] [] :=
  ⟨_, hdl_nil hs hf tk, fun x G m F env st σ H c da Dn a rx p => p m F H σ c da Le.refl a rx⟩
/-- what isub says is so -/
def SubOk (T : Tab) (K : PySem.W.Frag) (isub : Nat → Nat → Option Bool) : Prop := ∀ i j b, isub i j = some b → PySem.W.exmOne K (.ref (T.cad i)) (.ref (T.cad j)) = some b
theorem cls_cons {isub : Nat → Nat → Option Bool} {x : Str} {j : Nat} {d : DS} {b₀ : Stmt} {ss : List Stmt} {np pos' : Pos} {hds : List ExceptHandler} {l : List Clause} (ho : SubOk T X.K isub) (hf : X.env.frame = some X.env.locals) (hc : Names X x (.ref (T.cad j))) (hx : T.xa = none)
    (hd : SuiteD T X (b₀ :: ss) d) (r : Cls T X W isub hds l) : Cls T X W isub (.ExceptHandler (some (.Name x np)) none (b₀ :: ss) pos' :: hds) ((j, none, d) :: l) := by
  obtain ⟨w, h1, h2⟩ := r
  refine ⟨_, hdl_cons (ts := fun a cls da => tDS T X W0 d) hf hc (fun a oe cls da pn z f => ?_) h1, fun x G m F env st σ H c da Dn a rx p => ?_⟩
  · have q := hd none a oe cls da pn ⟨z, f, fun _ _ _ e => by cases e⟩
    have e : T.wx none = T := by unfold Tab.wx; rw [← hx]
    rw [e] at q
    exact q.pss
  · unfold hdGo at p
    cases q : isub x.c j with
    | none => rw [q] at p; exact p.elim
    | some b =>
      rw [q] at p
      refine ⟨b, by rw [rx.1]; exact ho _ _ _ q, fun e => ?_, fun e => ?_⟩
      · subst e
        exact fun _ _ => ⟨G, m, F, env, st, a, PostS.calm p⟩
      · subst e
        exact h2 x G m F env st σ H c da Dn a rx p
theorem cls_as {isub : Nat → Nat → Option Bool} {x n : Str} {j i : Nat} {d : DS} {b₀ : Stmt} {ss : List Stmt} {np pos' : Pos} {hds : List ExceptHandler} {l : List Clause} (ho : SubOk T X.K isub) (hf : X.env.frame = some X.env.locals) (hN : X.N.Nodup) (hi : X.N[i]? = some n) (hn : X.env.kindOf n = some .local)
    (hc : Names X x (.ref (T.cad j))) (hx : T.xa = none) (hd : SuiteD T X (b₀ :: ss) d) (r : Cls T X W isub hds l) : Cls T X W isub (.ExceptHandler (some (.Name x np)) (some n) (b₀ :: ss) pos' :: hds) ((j, some i, d) :: l) := by
  obtain ⟨w, h1, h2⟩ := r
  refine ⟨_, hdl_as (ts := fun a cls da Dn σ H => ∃ dx c, cls = .ref (T.cad c) ∧ da = some dx ∧ tDS (T.wx (some (a, dx, c))) X W0 d Dn σ H) hf hN hi hn hc (fun a oe cls da pn z f => ?_) h1, fun x G m F env st σ H c da Dn a rx p => ?_⟩
  · refine ⟨fun pins s σ H Dn I ⟨dx, c, e1, e2, t⟩ => ?_⟩
    exact (hd (some (a, dx, c)) a oe cls da pn ⟨z, f, fun _ _ _ e => by cases e; exact ⟨rfl, e1, e2⟩⟩).pss.run pins s σ H Dn I t
  · unfold hdGo at p
    cases q : isub x.c j with
    | none => rw [q] at p; exact p.elim
    | some b =>
      rw [q] at p
      refine ⟨b, by rw [rx.1]; exact ho _ _ _ q, fun e => ?_, fun e => ?_⟩
      · subst e
        intro ea hea
        simp only at p
        unfold RepX at rx
        cases hfs : x.fs with
        | none => rw [hfs] at p; exact p.elim
        | some fs =>
          rw [hfs] at p rx
          simp only at p rx
          obtain ⟨ec, dx, vs, ed, hF, hnm, rr⟩ := rx
          split at p
          · rename_i hk
            refine ⟨dx, x.c, ec, ed, G, m, F, env.set i (some (.exn x.c (fs.map Prod.snd))), st, ⟨a.sim.wx hx, ?_, by simp only [List.length_set]; exact a.len⟩, PostS.left p⟩
            exact EnvR.set i a.len (a.evr.wx hx) (Rep.exn (T := T.wx _) rfl hF (hnm.symm.trans hk) (rr.wx hx))
          · exact p.elim
      · subst e
        exact h2 x G m F env st σ H c da Dn a rx p
theorem ss_try {isub : Nat → Nat → Option Bool} {body : List Stmt} {h₀ : ExceptHandler} {hds : List ExceptHandler} {pos : Pos} {b : DS} {l : List Clause} (hs : X.stack = X.env :: X.outer) (hf : X.env.frame = some X.env.locals)
    (hb : ∀ (W : WX) (pn : List (Addr × Obj)) (xe : Value → Shared → Prop), Takes (X.tr pn xe) W → PassesOwn (model X.prog X.w) X.A X.env xe → SSs T (X.tr pn xe) W body b) (hc : Cls T X W isub (h₀ :: hds) l) :
    SS T X W (.Try body (h₀ :: hds) [] [] pos) (sTry isub T.xfs b l) := by
  obtain ⟨w, h1, h2⟩ := hc
  refine ⟨?_⟩
  intro G m F env st σ H Dn at0 h pins s II
  refine (ps_tryH (tb := fun W => tDS T X W b) hs hf (fun W pn xe tk po => (hb W pn xe tk po).pss) h1).run pins s σ H Dn II ⟨G, m, F, env, st, at0, ?_⟩
  unfold sTry at h
  cases q : b env st with
  | ex x e1 s1 => rw [q] at h; exact fun m2 F2 H2 σ2 c da l2 a2 rx => h2 x G m2 F2 e1 s1 σ2 H2 c da Dn a2 rx (PostS.le h l2)
  | nx e s => rw [q] at h; exact h
  | rt e s => rw [q] at h; exact h
  | bk e s => rw [q] at h; exact h
  | ct e s => rw [q] at h; exact h
  | no => rw [q] at h; exact h
/-- err.f -/
def fldOf (f : Str) : List Str → List D → Option D
  | y :: ys, d :: ds => if y = f then some d else fldOf f ys ds
  | _, _ => none
def dXf (ok : Nat → Bool) (xfs : Nat → List Str) (f : Str) (d : DE) : DE := fun env st => (d env st).bind fun x st1 => match x with
  | .exn c ds => if ok c then match fldOf f (xfs c) ds with
    | some y => .ok y st1
    | none => .no else .no
  | _ => .no
theorem fldOf_rep {f : Str} : ∀ {fs : List (Str × V)} {ds : List D} {y : D}, Reps T m F ds (fs.map Prod.snd) → fldOf f (fs.map Prod.fst) ds = some y → ∃ v, fs.lookup f = some v ∧ Rep T m F y v
  | [], ds, y, r, e => by cases r; simp [fldOf] at e
  | (g, v) :: fs, ds, y, r, e => by
    cases r with
    | cons r1 r2 =>
      simp only [List.map_cons, fldOf] at e
      split at e
      · rename_i hg
        cases e
        subst hg
        exact ⟨v, by simp [List.lookup], r1⟩
      · rename_i hg
        obtain ⟨v', h1, h2⟩ := fldOf_rep r2 e
        refine ⟨v', ?_, h2⟩
        have z : (f == g) = false := by simpa using fun z : f = g => hg z.symm
        simp [List.lookup, z, h1]
theorem se_xf {X : Cx} {xa : Option (Addr × Addr × Nat)} {a : Addr} {oe : Obj} {cls : Value} {da : Option Addr} {pn : List (Addr × Obj)} {e : Expr} {d : DE} {pos : Pos} {f : Str} {ok : Nat → Bool} (hot : Hot T xa a oe cls da) (hk : ∀ c, ok c = true → XfC X.K (T.cad c) ∧ PySem.W.findIn X.K (.ref (T.cad c)) f = some none)
    (he : SE (T.wx xa) (X.suite a ((a, oe) :: pn)) W e d) (hb : attributeBase e f X.env (eval e X.env) = eval e X.env := by rfl) : SE (T.wx xa) (X.suite a ((a, oe) :: pn)) W (.Attribute e f pos) (dXf ok T.xfs f d) := by
  refine ⟨?_⟩
  intro G m F env st σ H Q at0 h pins s II
  have he0 := fun (Q : VK) => he G m F env st σ H Q at0
  -- which class it is, the value says
  have go : ∀ c, ok c = true → tXf a cls da (T.cad c) f (wE (X.suite a ((a, oe) :: pn)) e) σ H Q → wpAny (model X.prog X.w) (X.suite a ((a, oe) :: pn)).A (eval (.Attribute e f pos) X.env) (EP (X.suite a ((a, oe) :: pn)) pins σ Q) (X.suite a ((a, oe) :: pn)).xe s :=
    fun c ho t => (pe_xf (hk c ho).1 (hk c ho).2 hot.z hot.f (pe_w (X := X.suite a ((a, oe) :: pn)) (e := e)) hb).run pins s σ H Q II t
  unfold dXf at h
  cases q : d env st with
  | no => rw [q] at h; exact h.elim
  | ex x s1 =>
    rw [q] at h
    refine attr_of hb (thn (he0 (fun _ _ => False) (by rw [q]; exact h) pins s II) fun u s1 got => ?_)
    obtain ⟨_, _, _, _, no⟩ := got
    exact no.elim
  | ok x s1 =>
    rw [q] at h
    cases x with
    | exn c ds =>
      have h : Post (T.wx xa) (RV (T.wx xa)) G m F (if ok c then match fldOf f (T.xfs c) ds with
        | some y => .ok y s1
        | none => .no else .no) Q (fun c da H' => W c da σ H') := h
      split at h
      · rename_i ho
        split at h
        · rename_i y hy
          refine go c ho (he0 _ ?_)
          rw [q]
          intro m1 F1 H1 v l1 S1 r1
          cases r1 with
          | exn e hF hn rr =>
            obtain ⟨rfl, ec, ed⟩ := hot.k _ _ _ e
            have hn : List.map Prod.fst _ = T.xfs c := hn
            obtain ⟨v, lk, rv⟩ := fldOf_rep (f := f) rr (by rw [hn]; exact hy)
            exact ⟨rfl, ec, _, _, v, ed, S1.sub _ _ hF, lk, h m1 F1 H1 v l1 S1 rv⟩
        · exact h.elim
      · exact h.elim
    | _ => exact h.elim
end
end Den

namespace Den
open PySem PySem.Spec PyProof.Rows L2 RZ
/-! ### x(lambda: e), x a def that calls what it is handed, inside a try -/
section
variable {T : Tab} {X : Cx} {W : WX} {m m' : List Addr} {F F' H H' : Hp} {G : Frm} {st st' : List O}
/-- only tables of code objects change -/
theorem Sim.extN (S : Sim T G m st F H) (e : LamX.ExtN H H') (t : LamX.Tabs T.tbs H') : Sim T G m st F H' := by
  have cell : ∀ n o a, st[n]? = some o → m[n]? = some a → RepO T m F o a H' ∧ ∃ u, H' a = some u := fun n o a e1 e2 => by
    have z := S.cells n o a e1 e2
    cases o with
    | lst xs => obtain ⟨vs, h1, h2, h3⟩ := z; have q := e _ _ h1 lst_not_tbl; exact ⟨⟨vs, q, h2, h3⟩, _, q⟩
    | ins c fs => obtain ⟨dx, vs, h1, h2, h3, h4⟩ := z; have q := e _ _ h1 (fun ps z => by cases z); exact ⟨⟨dx, vs, q, h2, h3, h4⟩, _, q⟩
    | lent xs => obtain ⟨vs, h1, h2, h3⟩ := z; have q := e _ _ h1 lst_not_tbl; exact ⟨⟨vs, q, h2, h3⟩, _, q⟩
  exact { S with
    frm := fun b o z => e _ _ (S.frm b o z) fun ps q => by
      rcases S.gnt b o z with ⟨vs, h⟩ | ⟨C, dx, fs, h⟩ <;> (rw [h] at q; cases q)
    frl := fun b o z => e _ _ (S.frl b o z) fun ps q => by
      obtain ⟨vs, h⟩ := S.lls b o z
      rw [h] at q
      cases q
    sub := fun b o z => e _ _ (S.sub b o z) fun ps q => S.fnt b ps (by rw [z, q])
    cells := fun n o a e1 e2 => (cell n o a e1 e2).1
    there := fun n a e2 => by
      have hn : n < st.length := by rw [S.len]; exact (List.getElem?_eq_some_iff.mp e2).1
      exact (cell n _ a (List.getElem?_eq_getElem hn) e2).2
    tab := t }
/-- what such a def hands back -/
def dMet (isub : Nat → Nat → Option Bool) (xfs : Nat → List Str) (l : List Clause) (fine : DE) (N : Nat) (db : DE) : DE := fun env st => match db env st with
  | .ok _ st1 => (fine [] st1).calm
  | .ex x st1 => match hdGo isub xfs l x (List.replicate N none) st1 with
    | .rt v st2 => .ok v st2
    | _ => .no
  | .no => .no
def fineR (T : Tab) (fine : DE) : Hp → VK → Prop := fun H Q => ∃ G m F st, Sim T G m st F H ∧ Post T (RV T) G m F (fine [] st) Q (fun _ _ _ => False)
theorem SE.fineR {e : Expr} {d : DE} (h : SE T X W0 e d) : PE X e (fun _ H Q => fineR T d H Q) := ⟨fun pins s σ H Q I ⟨G, m, F, st, S, p⟩ => h G m F [] st σ H Q ⟨S, fun i d e => by simp at e, Nat.zero_le _⟩ p pins s I⟩
def endsMet (T : Tab) (fine : DE) (Q : VK) : Ends := { nx := fun _ H => fineR T fine H Q, rt := Q }
/-- what is wished of an exception of the lambda's body -/
def metX (T : Tab) (X : Cx) (isub : Nat → Nat → Option Bool) (l : List Clause) (fine : DE) (N : Nat) (Q : VK) : XK := fun cls da H => ∃ x G m F st, Sim T G m st F H ∧ RepX T m F x cls da H ∧ PostS T X G m F (hdGo isub T.xfs l x (List.replicate N none) st) (endsMet T fine Q) W0
def metT (T : Tab) (X : Cx) (isub : Nat → Nat → Option Bool) (l : List Clause) (fine : DE) (N : Nat) : (XK → Hp → VK → Prop) → Hp → VK → Prop := fun tl H Q => tl (metX T X isub l fine N Q) H fun _ H' => fineR T fine H' Q
/-- the clauses see all names of the def -/
theorem Hdl.len {hds : List ExceptHandler} {w : Ends → WX} (h : Hdl X hds w) : Hdl X hds fun D cls d σ H => List.length σ = X.N.length → w D cls d σ H :=
  fun pins σ H a cls d sI s B D C k => h pins σ H a cls d sI s B D C (k C.inv.len)
theorem rep_none {N : Nat} {σ : L2.St} : EnvR T m F (List.replicate N none) σ := fun i d e => by
  rw [List.getElem?_replicate] at e
  split at e <;> cases e
theorem met_gives {Ng : List Str} {x a : Str} {q : Str} {sg : Scope} {g : Addr} {cdg : Value} {isub : Nat → Nat → Option Bool} {l : List Clause} {fine : DE} {fineE : Expr} {h₀ : ExceptHandler} {hds : List ExceptHandler} {p1 p2 p3 p8 p9 : Pos} (h0 : ∀ f : Addr, (L2.start Ng [V.ref f])[0]? = some (some (V.ref f)))
    (hcl : ∀ s H, Cls T (cxOf C8.CX0 X.prog X.w X.K X.mg X.base Ng x sg g cdg X.A X.stack s H C8.E0).nox W0 isub (h₀ :: hds) l)
    (hfi : ∀ s H, SE T (cxOf C8.CX0 X.prog X.w X.K X.mg X.base Ng x sg g cdg X.A X.stack s H C8.E0).nox W0 fineE fine) (hsw : ∀ s H pn xe, swapsWith (.Call (.Name a p1) [] [] p2) none p3.line ((cxOf C8.CX0 X.prog X.w X.K X.mg X.base Ng x sg g cdg X.A X.stack s H C8.E0).nox.tr pn xe).env = pure false := by intros; rfl) :
    LamX.GivesTo X Ng x sg g cdg [.Try [.Expr (.Call (.Name a p1) [] [] p2) p3] (h₀ :: hds) [] [] p8, .Return (some fineE) p9] a q (metT T X isub l fine Ng.length) := by
  intro f c' s H Q tl act hc h
  obtain ⟨w, h1, h2⟩ := hcl s H
  refine ⟨_, pss_cons (ps_tryH (X := (cxOf C8.CX0 X.prog X.w X.K X.mg X.base Ng x sg g cdg X.A X.stack s H C8.E0).nox)
      (tb := fun W D σ H => ∃ Ech : XK, (∀ cls d σ' H', Ech cls d H' → W cls d σ' H') ∧ σ[0]? = some (some (.ref f)) ∧ H c' = some (LamX.CodeO c' q) ∧ tl Ech H (fun _ H' => D.nx σ H')) rfl rfl (fun W pn xe tk _ => ?_) h1.len) (pss_one (ps_ret (hfi s H).fineR)), ?_⟩
  · refine ⟨fun pins s' σ H' D I h' => ?_⟩
    obtain ⟨Ech, hW, z1, z2, z3⟩ := h'
    exact (pss_one (ps_expr (act W pn xe Ech p1 p2 tk hW) (hsw s H pn xe))).run pins s' σ H' D I ⟨z1, z2, z3⟩
  · refine ⟨metX T X isub l fine Ng.length Q, fun cls d σ' H' ⟨y, G, m, F, st, S, rx, p⟩ hl => ?_, h0 f, hc, ?_⟩
    · exact h2 y G m F (List.replicate Ng.length none) st σ' H' cls d _ ⟨S, rep_none, by rw [List.length_replicate]; exact Nat.le_of_eq hl.symm⟩ rx p.cx
    · exact h
theorem se_met {x a : Str} {g c P : Addr} {k : Nat} {pg : Arguments} {sg : Scope} {dV kV doc pm cdv ct oc : Value} {an od : Option Addr} {osl : Array (Option Value)} {Ng : List Str} {isub : Nat → Nat → Option Bool} {l : List Clause} {fine : DE} {fineE : Expr} {h₀ : ExceptHandler} {hds : List ExceptHandler} {p1 p2 p3 p8 p9 : Pos}
    {params : Arguments} {body : Expr} {scope : Scope} {db : DE} {p lpos pos : Pos} (hg : Gl X x) (hm : X.mg x = some (.ref g)) (hk : PySem.W.keepIn X.K (.ref g) = true)
    (lk : X.K.lookup g = some ⟨oc, od, .func (PySem.W.fnOf x x pg [.Try [.Expr (.Call (.Name a p1) [] [] p2) p3] (h₀ :: hds) [] [] p8, .Return (some fineE) p9] sg dV kV doc pm an cdv ct), osl⟩) (hcg : PySem.W.codeIn X.K cdv x = true)
    (hb : L2.Binds X.K (PySem.W.fnOf x x pg [.Try [.Expr (.Call (.Name a p1) [] [] p2) p3] (h₀ :: hds) [] [] p8, .Return (some fineE) p9] sg dV kV doc pm an cdv ct) [a] []) (Sg : FnScope Ng [a] sg) (hNg : Ng[0]? = some a) (hva : Vis sg a) (h0 : ∀ f : Addr, (L2.start Ng [V.ref f])[0]? = some (some (V.ref f)))
    (hcl : ∀ s H, Cls T (cxOf C8.CX0 X.prog X.w X.K X.mg X.base Ng x sg g cdv X.A X.stack s H C8.E0).nox W0 isub (h₀ :: hds) l)
    (hfi : ∀ s H, SE T (cxOf C8.CX0 X.prog X.w X.K X.mg X.base Ng x sg g cdv X.A X.stack s H C8.E0).nox W0 fineE fine) (TB : LamX.TabB X.base X.mg c P) (hcode : X.env.code = .ref c) (hmT : (P, X.env.qual ++ "<lambda>") ∈ T.tbs) (hu : ∀ q ∈ T.tbs, q.1 = P → q.2 = X.env.qual ++ "<lambda>")
    (hr : Room (k + 2) X.A) (L : LamX.LamS X.env.scope scope) (hdef : defaultsOf params X.env = ([], [])) (hbind : ∀ (q : Str) (cl : List (Str × Addr)) (pm cv ctv : Value), bindArgs (PySem.W.kla_fn "<lambda>" q params body scope cl pm cv ctv) ⟨[], []⟩ = pure [])
    (hbody : ∀ (A : Around) (outer : List Env) (s : Shared) (H : Hp) (E : XK) (f c' : Addr), Room k (A.deeper (LamX.lamEnv X scope s.heap.objs.size f c')) → SE T (LamX.lamCx X A outer s H E scope f c') (WF E) body db)
    (hdb : (x == ("__debug__" : Str)) = false := by decide) (hd : (a == ("__debug__" : Str)) = false := by decide) (hcd : (a == ("__classdict__" : Str)) = false := by decide) :
    SE T X W (.Call (.Name x p) [.Lambda params body scope lpos] [] pos) (dMet isub T.xfs l fine Ng.length db) := by
  refine ⟨?_⟩
  intro G m F env st σ H Q at0 h pins s II
  refine (LamX.pe_lamcall (t := fun E => tD T (WF E) db) hg hm hk lk hcg hb Sg hNg hva (met_gives h0 hcl hfi) TB hcode hmT hu hr L hdef hbind (fun A outer s H E f c' hr' => (hbody A outer s H E f c' hr').pe) hdb hd hcd).run pins s σ H Q II ⟨at0.sim.tab, fun H1 eN t1 => ?_⟩
  have S1 := at0.sim.extN eN t1
  refine ⟨G, m, F, env, st, ⟨S1, at0.evr, at0.len⟩, ?_⟩
  unfold dMet at h
  cases q : db env st with
  | ok v st1 => rw [q] at h; exact fun m2 F2 H2 v2 l2 S2 r2 => ⟨G, m2, F2, st1, S2, Post.le (Post.calm h) l2⟩
  | no => rw [q] at h; exact h
  | ex y st1 =>
    rw [q] at h
    refine fun m2 F2 H2 cls da l2 S2 rx => ⟨y, G, m2, F2, st1, S2, rx, ?_⟩
    simp only at h
    cases q2 : hdGo isub T.xfs l y (List.replicate Ng.length none) st1 with
    | rt v st2 => rw [q2] at h; exact fun m3 F3 H3 v3 l3 S3 r3 => h m3 F3 H3 v3 (l2.trans l3) S3 r3
    | nx e s => rw [q2] at h; exact h.elim
    | bk e s => rw [q2] at h; exact h.elim
    | ct e s => rw [q2] at h; exact h.elim
    | ex x e s => rw [q2] at h; exact h.elim
    | no => rw [q2] at h; exact h.elim
/-- what leaves a lambda's body is taken -/
theorem takes_lam {A : Around} {outer : List Env} {s : Shared} {E : XK} {scope : Scope} {f c' : Addr} : Takes (LamX.lamCx X A outer s H E scope f c') (WF E) := takes_of rfl rfl rfl rfl
theorem here_lam {A : Around} {outer : List Env} {s : Shared} {E : XK} {scope : Scope} {f c' : Addr} {k : Nat} (hr : Room k (A.deeper (LamX.lamEnv X scope s.heap.objs.size f c'))) : Here (LamX.lamCx X A outer s H E scope f c') (WF E) false k := ⟨fun e => (by cases e), hr, takes_lam⟩
end
end Den

namespace Den
open PySem PySem.Spec PyProof.Rows L2 RZ
section
variable {T : Tab} {X : Cx} {W : WX} {m m' : List Addr} {F F' H H' : Hp} {G : Frm} {st st' : List O}
/-- {}, never changed -/
def dDct0 : DE := fun _ st => .ok .dct0 st
theorem se_dct0 {pos : Pos} : SE T X W (.Dict [] [] pos) dDct0 := by
  refine ⟨?_⟩
  intro G m F env st σ H Q at0 h pins s I
  refine pe_dnewK.run pins s σ H Q I fun p hp => ?_
  obtain ⟨S, l⟩ := at0.sim.laid (o := .dK []) hp
  exact h m _ _ _ l S (.dct0 upd_same)
/-- -x -/
def oNeg : D → List O → R D := fun x st => match x with
  | .int i => .ok (.int (-i)) st
  | _ => .no
def dUn (g : D → List O → R D) (d : DE) : DE := fun env st => (d env st).bind fun x st1 => g x st1
theorem se_neg {e : Expr} {pos : Pos} {d : DE} (he : SE T X W e d) : SE T X W (.UnaryOp .USub e pos) (dUn oNeg d) := by
  refine ⟨?_⟩
  intro G m F env st σ H Q at0 h pins s I
  refine (pe_un un_neg (pe_w (X := X) (e := e))).run pins s σ H Q I ?_
  refine he _ m F env st σ H _ at0 (Post.bind h fun x st1 m1 F1 H1 v e1 l1 S1 r1 h1 => ?_)
  cases r1 with
  | int i => exact ⟨i, rfl, h1 m1 F1 H1 _ Le.refl S1 (.int _)⟩
  | _ => exact h1.elim
/-- a + b, a list that will change -/
def oAddC : D → D → List O → R D := fun x y st => match lstOf x st, lstOf y st with
  | some xs, some ys => if xs.length + ys.length ≤ sizeLine then .ok (.cel st.length) (st ++ [.lst (xs ++ ys)]) else .no
  | _, _ => .no
theorem od_addC : OpD T X (binaryOp .Add) oAddC := by
  intro pins s σ H x y v u Q I rx ry q
  obtain ⟨G, m, F, st, dx, dy, S, r1, r2, p⟩ := q
  unfold oAddC at p
  split at p
  · rename_i xs ys e1 e2
    split at p
    · rename_i hl
      obtain ⟨a, vs, rfl, g1, q1⟩ := lstOf_rep S r1 e1
      obtain ⟨b, ws, rfl, g2, q2⟩ := lstOf_rep S r2 e2
      have z1 := Reps.length q1
      have z2 := Reps.length q2
      refine op_cat pins s σ H _ _ v u Q I rx ry ⟨a, b, vs, ws, rfl, rfl, g1, g2, by omega, fun p' hp => ?_⟩
      obtain ⟨S2, l2, r3⟩ := S.newCel (q1.append q2) hp
      exact p _ _ _ _ l2 S2 r3
    · exact p.elim
  · exact p.elim
/-- repr of an int -/
def bReprI : List D → List O → R D := fun xs st => match xs with
  | [.int i] => if i.natAbs.log2 < 1920 then .ok (.str (toString i)) st else .no
  | _ => .no
theorem bd_reprI : CallD T X (.builtin "repr") bReprI := by
  intro pins s σ H xs us Q I r h
  obtain ⟨G, m, F, st, ds, S, r1, p⟩ := h
  unfold bReprI at p
  split at p
  · rename_i i
    cases r1 with
    | cons a b =>
      cases b
      cases a
      split at p
      · rename_i hi
        exact SkE.call_repr_int pins s σ H _ us Q I r ⟨i, rfl, hi, p m F H _ Le.refl S (.str _)⟩
      · exact p.elim
  · exact p.elim
/-- a def whose list its caller changes: nothing is forgotten -/
def runF0 (N : Nat) (b : DS) (ds : List D) (st : List O) : R D := match b (ds.map some ++ List.replicate (N - ds.length) none) st with
  | .nx _ st' => .ok .non st'
  | .rt d st' => .ok d st'
  | .ex x _ st' => .ex x st'
  | _ => .no
theorem fn_den0 {gb : Bool} {P : Program} {w : World} {K : PySem.W.Frag} {mg : Str → Option Value} {base : Heap} {x qual : Str} {s0 : Stmt} {f : Addr} {fd : FuncData} {N ps : List Str} {k : Nat} {b : DS} (Fn : Fun K x qual s0 f fd) (Sc : FnScope N ps (defScope s0))
    (hb : ∀ (cdv : Value) (A : Around) (outer : List Env) (s : Shared) (H : Hp) (E : XK), (gb = true → A.guards = some []) → Room k (A.deeper (envOfC qual (defScope s0) s.heap.objs.size f cdv)) →
      SSs T (cxOf (L2.CX P w) P w K mg base N qual (defScope s0) f cdv A outer s H E) (WF E) (defBody s0) b) :
    FnG gb P w K mg base (k + 1) f fd ps (spD T ps.length (runF0 N.length b)) := by
  obtain ⟨oc, od, kV, doc, pm, an, cdv, ct, osl, rfl, lk, hcd⟩ := Fn.ex
  refine ⟨fun vs H Q E h => h.1, fun A outer s H args us vs Q E hg hr e0 hbind r hsp => ?_⟩
  obtain ⟨hl, G, m, F, st, ds, S, rd, p⟩ := hsp
  have kin : K.In s.heap := e0.mod.kin.keeps fun b' o' z => (e0.bs b' o' z).1
  have nolim : s.heap.NoLimit := e0.mod.nolimit.keeps fun b' o' z => (e0.bs b' o' z).1
  have kinds : ∀ y ∈ ps.zip us, (defScope s0).names.lookup y.1 = some .local ∨ ((defScope s0).names.lookup y.1 = some .cell ∧ ((cellsFrom (s.heap.objs.size + 1) (defScope s0).names []).lookup y.1).isSome = true) := by
    rintro ⟨n, v⟩ hy
    rcases Sc.par n (List.of_mem_zip hy).1 with z | z
    · exact .inl z
    · exact .inr ⟨z, PySem.W.cellsFrom_some _ _ _ (.inl z)⟩
  refine codeAny_call_function hr.depth (kin _ _ lk) rfl Sc.co Sc.gen rfl (PySem.W.codeRec_of kin hcd) (hbind _ _ _ _ (wpAny_newFunctionEnv_cells Sc.kind kinds fun env he s1 xc => ?_))
  subst he
  refine ⟨nolim.keeps xc.toInCall.keep, codeAny_func ?_⟩
  have todo : wSs (cxOf (L2.CX P w) P w K mg base N qual (defScope s0) f cdv A outer s H E) (defBody s0) { nx := fun _ H' => Q .non H', rt := Q } (L2.start N vs) H := by
    refine hb cdv A outer s H E hg (hr.deeper _) G m F _ st _ H _ ⟨S, start_env (N := N) rd, ?_⟩ ?_
    · have e := rd.length
      unfold L2.start
      simp only [List.length_append, List.length_map, List.length_replicate]
      omega
    · unfold runF0 at p
      cases q : b (ds.map some ++ List.replicate (N.length - ds.length) none) st with
      | nx e s => rw [q] at p; exact fun m' F' H' σ' l a => p m' F' H' .non l a.sim .non
      | rt d s => rw [q] at p; exact p
      | ex x e1 s => rw [q] at p; exact fun m' F' H' σ' c da l a rx => p m' F' H' c da l a.sim rx
      | bk e s => rw [q] at p; exact p.elim
      | ct e s => rw [q] at p; exact p.elim
      | no => rw [q] at p; exact p.elim
  refine wpAny_mono (body_run Sc hr.hd e0 hl r xc pss_w todo) (fun fl s' out => ?_) fun e s' out => out
  cases fl with
  | next => exact out
  | ret u => exact out
  | brk => exact out.elim
  | cont => exact out.elim
end
end Den

namespace Den
open PySem PySem.Spec PyProof.Rows L2 RZ
/-! ### words of the derivations that the script writes -/
theorem bt_len : bootBuiltins "len" = some (.builtin "len") := by decide +kernel
theorem bt_all : bootBuiltins "all" = some (.builtin "all") := by decide +kernel
theorem bt_any : bootBuiltins "any" = some (.builtin "any") := by decide +kernel
theorem bt_sum : bootBuiltins "sum" = some (.builtin "sum") := by decide +kernel
theorem bt_abs : bootBuiltins "abs" = some (.builtin "abs") := by decide +kernel
theorem bt_sorted : bootBuiltins "sorted" = some (.builtin "sorted") := by decide +kernel
theorem bt_isinstance : bootBuiltins "isinstance" = some (.builtin "isinstance") := by decide +kernel
theorem bt_repr : bootBuiltins "repr" = some (.builtin "repr") := by decide +kernel
theorem bt_max : bootBuiltins "max" = some (.builtin "max") := by decide +kernel
theorem bt_min : bootBuiltins "min" = some (.builtin "min") := by decide +kernel
theorem bt_tuple : bootBuiltins "tuple" = some (.type "tuple") := by decide +kernel
theorem bt_list : bootBuiltins "list" = some (.type "list") := by decide +kernel
theorem bt_int : bootBuiltins "int" = some (.type "int") := by decide +kernel
theorem bt_bool : bootBuiltins "bool" = some (.type "bool") := by decide +kernel
theorem bt_str : bootBuiltins "str" = some (.type "str") := by decide +kernel
theorem bt_dict : bootBuiltins "dict" = some (.type "dict") := by decide +kernel
/-- the n-th def is good to be called, from anywhere -/
structure CalG (T : Tab) (P : Program) (w : World) (mg : Str → Option Value) (base : Heap) (gb : Bool) (k n : Nat) (call : List D → List O → R D) : Prop where
  ex : ∃ (fd : FuncData) (ps : List Str), FnG gb P w T.K mg base k (T.fad n) fd ps (spD T ps.length call) ∧ Binds T.K fd ps [] ∧ ∀ ds st, ds.length ≠ ps.length → call ds st = .no
  kp : PySem.W.keepIn T.K (.ref (T.fad n)) = true
section
variable {T : Tab} {X : Cx} {W : WX} {m m' : List Addr} {F F' H H' : Hp} {G : Frm} {st st' : List O}
theorem CalG.mono {P : Program} {w : World} {mg : Str → Option Value} {base : Heap} {gb : Bool} {j k n : Nat} {call : List D → List O → R D} (C : CalG T P w mg base gb j n call) (h : j ≤ k) : CalG T P w mg base gb k n call := by
  obtain ⟨fd, ps, a, b, c⟩ := C.ex
  exact ⟨⟨fd, ps, a.mono h, b, c⟩, C.kp⟩
theorem calX {gb : Bool} {k n : Nat} {call : List D → List O → R D} (C : CalG T X.prog X.w X.mg X.base gb k n call) (hK : X.K = T.K := by rfl) : Cal T X gb k n call := by
  obtain ⟨fd, ps, a, b, c⟩ := C.ex
  exact ⟨⟨fd, ps, hK ▸ a, hK ▸ b, c⟩, hK ▸ C.kp⟩
theorem here_fn {P : Program} {w : World} {K : PySem.W.Frag} {mg : Str → Option Value} {base : Heap} {N : List Str} {qual : Str} {scope : Scope} {f : Addr} {cdv : Value} {A : Around} {outer : List Env} {s : Shared} {E : XK} {k : Nat} (hr : Room k (A.deeper (envOfC qual scope s.heap.objs.size f cdv))) :
    Here (cxOf (L2.CX P w) P w K mg base N qual scope f cdv A outer s H E) (WF E) false k := ⟨fun e => (by cases e), hr, takes_of rfl rfl rfl rfl⟩
theorem pas_fn {P : Program} {w : World} {K : PySem.W.Frag} {mg : Str → Option Value} {base : Heap} {N : List Str} {qual : Str} {scope : Scope} {f : Addr} {cdv : Value} {A : Around} {outer : List Env} {s : Shared} {E : XK} :
    PassesOwn (model P w) (A.deeper (envOfC qual scope s.heap.objs.size f cdv)) (envOfC qual scope s.heap.objs.size f cdv) (cxOf (L2.CX P w) P w K mg base N qual scope f cdv A outer s H E).xe := passes_of (X := cxOf (L2.CX P w) P w K mg base N qual scope f cdv A outer s H E) rfl
theorem here_blk {gb : Bool} {k : Nat} (he : Here X W gb k) {s : Shared} {H : Hp} {scope : Scope} {C : Addr} {cl : List (Str × Addr)} {fp : List Addr} : Here (blkX X s H scope C cl fp) W0 gb k := ⟨he.gd, he.room, LamX.takes0⟩
/-- asked for the right number of values -/
def ar (n : Nat) (call : List D → List O → R D) : List D → List O → R D := fun ds st => if ds.length = n then call ds st else .no
theorem fnG_ar {gb : Bool} {P : Program} {w : World} {K : PySem.W.Frag} {mg : Str → Option Value} {base : Heap} {k : Nat} {f : Addr} {fd : FuncData} {ps : List Str} {n : Nat} {call : List D → List O → R D} (Fn : FnG gb P w K mg base k f fd ps (spD T n call)) : FnG gb P w K mg base k f fd ps (spD T n (ar n call)) := by
  have imp : ∀ vs H Q E, spD T n (ar n call) vs H Q E → spD T n call vs H Q E := fun vs H Q E h => by
    obtain ⟨hl, G, m, F, st, ds, S, r, p⟩ := h
    refine ⟨hl, G, m, F, st, ds, S, r, ?_⟩
    unfold ar at p
    rw [if_pos (by rw [r.length]; exact hl)] at p
    exact p
  exact ⟨fun vs H Q E h => Fn.len vs H Q E (imp _ _ _ _ h), fun A outer s H args us vs Q E a b c d e h => Fn.run A outer s H args us vs Q E a b c d e (imp _ _ _ _ h)⟩
/-- a def of the text stands where T says -/
structure DefAt (T : Tab) (x qual : Str) (s0 : Stmt) (n : Nat) (ps : List Str) : Prop where
  ex : ∃ fd, Fun T.K x qual s0 (T.fad n) fd ∧ Binds T.K fd ps []
theorem cal_of {gb : Bool} {P : Program} {w : World} {mg : Str → Option Value} {base : Heap} {x qual : Str} {s0 : Stmt} {n : Nat} {N ps : List Str} {k : Nat} {b : DS} (D0 : DefAt T x qual s0 n ps) (Sc : FnScope N ps (defScope s0))
    (hb : ∀ (cdv : Value) (A : Around) (outer : List Env) (s : Shared) (H : Hp) (E : XK), (gb = true → A.guards = some []) → Room k (A.deeper (envOfC qual (defScope s0) s.heap.objs.size (T.fad n) cdv)) →
      SSs T (cxOf (L2.CX P w) P w T.K mg base N qual (defScope s0) (T.fad n) cdv A outer s H E) (WF E) (defBody s0) b) : CalG T P w mg base gb (k + 1) n (ar ps.length (runF N.length b)) := by
  obtain ⟨fd, F, B⟩ := D0.ex
  exact ⟨⟨fd, ps, fnG_ar (fn_den F Sc hb), B, fun ds st h => if_neg h⟩, F.kp⟩
theorem cal_of0 {gb : Bool} {P : Program} {w : World} {mg : Str → Option Value} {base : Heap} {x qual : Str} {s0 : Stmt} {n : Nat} {N ps : List Str} {k : Nat} {b : DS} (D0 : DefAt T x qual s0 n ps) (Sc : FnScope N ps (defScope s0))
    (hb : ∀ (cdv : Value) (A : Around) (outer : List Env) (s : Shared) (H : Hp) (E : XK), (gb = true → A.guards = some []) → Room k (A.deeper (envOfC qual (defScope s0) s.heap.objs.size (T.fad n) cdv)) →
      SSs T (cxOf (L2.CX P w) P w T.K mg base N qual (defScope s0) (T.fad n) cdv A outer s H E) (WF E) (defBody s0) b) : CalG T P w mg base gb (k + 1) n (ar ps.length (runF0 N.length b)) := by
  obtain ⟨fd, F, B⟩ := D0.ex
  exact ⟨⟨fd, ps, fnG_ar (fn_den0 F Sc hb), B, fun ds st h => if_neg h⟩, F.kp⟩
end
end Den

namespace Den
open PySem PySem.Spec PyProof.Rows L2 RZ
section
variable {T : Tab} {X : Cx} {W : WX} {m m' : List Addr} {F F' H H' : Hp} {G : Frm} {st st' : List O}
/-! ### the greatest, the least of a list -/
def foldI (g : Int → Int → Int) : List Int → Option Int
  | [] => none
  | [x] => some x
  | x :: r => match foldI g r with
    | some y => some (g x y)
    | none => none
def maxI (i j : Int) : Int := if i < j then j else i
def minI (i j : Int) : Int := if j < i then j else i
theorem foldI_some (g : Int → Int → Int) : ∀ (x : Int) (r : List Int), ∃ y, foldI g (x :: r) = some y
  | x, [] => ⟨x, rfl⟩
  | x, y :: r => by
    obtain ⟨z, h⟩ := foldI_some g y r
    exact ⟨g x z, by simp only [foldI] at h ⊢; rw [h]⟩
theorem max_is : ∀ {ns : List Int} {k : Int}, foldI maxI ns = some k → k ∈ ns ∧ ∀ y ∈ ns, y ≤ k
  | [], k, h => by cases h
  | [x], k, h => by cases h; exact ⟨List.mem_cons_self, fun y hy => by simp at hy; omega⟩
  | x :: z :: r, k, h => by
    obtain ⟨y, hy⟩ := foldI_some maxI z r
    have ih := max_is hy
    have e : some (maxI x y) = some k := by
      have h' : (match foldI maxI (z :: r) with | some y => some (maxI x y) | none => none) = some k := h
      rw [hy] at h'
      exact h'
    cases e
    unfold maxI
    split
    · refine ⟨List.mem_cons_of_mem _ ih.1, fun a ha => ?_⟩
      rcases List.mem_cons.mp ha with rfl | ha
      · omega
      · exact ih.2 a ha
    · refine ⟨List.mem_cons_self, fun a ha => ?_⟩
      rcases List.mem_cons.mp ha with rfl | ha
      · omega
      · have := ih.2 a ha
        omega
theorem min_is : ∀ {ns : List Int} {k : Int}, foldI minI ns = some k → k ∈ ns ∧ ∀ y ∈ ns, k ≤ y
  | [], k, h => by cases h
  | [x], k, h => by cases h; exact ⟨List.mem_cons_self, fun y hy => by simp at hy; omega⟩
  | x :: z :: r, k, h => by
    obtain ⟨y, hy⟩ := foldI_some minI z r
    have ih := min_is hy
    have e : some (minI x y) = some k := by
      have h' : (match foldI minI (z :: r) with | some y => some (minI x y) | none => none) = some k := h
      rw [hy] at h'
      exact h'
    cases e
    unfold minI
    split
    · refine ⟨List.mem_cons_of_mem _ ih.1, fun a ha => ?_⟩
      rcases List.mem_cons.mp ha with rfl | ha
      · omega
      · exact ih.2 a ha
    · refine ⟨List.mem_cons_self, fun a ha => ?_⟩
      rcases List.mem_cons.mp ha with rfl | ha
      · omega
      · have := ih.2 a ha
        omega
def bFold (g : Int → Int → Int) : List D → List O → R D := fun xs st => match xs with
  | [d] => match lstOf d st with
    | some ys => match intsD ys with
      | some ns => match foldI g ns with
        | some k => .ok (.int k) st
        | none => .no
      | none => .no
    | none => .no
  | _ => .no
theorem bd_maxL (hc : X.calm = true) : CallD T X (.builtin "max") (bFold maxI) := by
  intro pins s σ H xs us Q I r h
  obtain ⟨G, m, F, st, ds, S, r1, p⟩ := h
  unfold bFold at p
  split at p
  · cases r1 with
    | cons a b =>
      cases b
      split at p
      · rename_i ys hy
        split at p
        · rename_i ns hn
          split at p
          · rename_i k hk
            obtain ⟨q, vs, rfl, g1, g2⟩ := lstOf_rep S a hy
            have ev := ints_rep g2 hn
            subst ev
            have z := max_is hk
            refine cr_max hc pins s σ H _ us Q I r ⟨q, ns, rfl, SqL.of g1, List.length_pos_of_mem z.1, fun m' h1 h2 => ?_⟩
            have e : m' = k := Int.le_antisymm (z.2 m' h1) (h2 k z.1)
            subst e
            exact p _ F H _ Le.refl S (.int _)
          · exact p.elim
        · exact p.elim
      · exact p.elim
  · exact p.elim
theorem bd_minL (hc : X.calm = true) : CallD T X (.builtin "min") (bFold minI) := by
  intro pins s σ H xs us Q I r h
  obtain ⟨G, m, F, st, ds, S, r1, p⟩ := h
  unfold bFold at p
  split at p
  · cases r1 with
    | cons a b =>
      cases b
      split at p
      · rename_i ys hy
        split at p
        · rename_i ns hn
          split at p
          · rename_i k hk
            obtain ⟨q, vs, rfl, g1, g2⟩ := lstOf_rep S a hy
            have ev := ints_rep g2 hn
            subst ev
            have z := min_is hk
            refine cr_min hc pins s σ H _ us Q I r ⟨q, ns, rfl, SqL.of g1, List.length_pos_of_mem z.1, fun m' h1 h2 => ?_⟩
            have e : m' = k := Int.le_antisymm (h2 k z.1) (z.2 m' h1)
            subst e
            exact p _ F H _ Le.refl S (.int _)
          · exact p.elim
        · exact p.elim
      · exact p.elim
  · exact p.elim
/-- xs.extend(ys), ys a list -/
def mExt : D → List D → List O → R D := fun o ys st => match o, ys with
  | .cel n, [y] => match st[n]?, lstOf y st with
    | some (.lst xs), some zs => if xs.length + zs.length ≤ sizeLine then .ok .non (st.set n (.lst (xs ++ zs))) else .no
    | _, _ => .no
  | _, _ => .no
theorem md_extend : MtM X "list.extend" (rM T mExt) := by
  intro pins s σ H x vs v us Q I rx rv h
  obtain ⟨G, m, F, st, o, ds, S, r1, r2, p⟩ := h
  unfold mExt at p
  split at p
  · rename_i n y
    cases r1 with
    | cel hn =>
      cases r2 with
      | cons r3 r4 =>
        cases r4
        split at p
        · rename_i xs zs hx hz
          split at p
          · rename_i hl
            obtain ⟨ws, g1, g2, g3⟩ := S.cells _ _ _ hx hn
            obtain ⟨b, us', rfl, g4, g5⟩ := lstOf_rep S r3 hz
            refine mt_extend pins s σ H _ _ v us Q I rx rv ⟨_, b, ws, us', rfl, rfl, g1, g4, by rw [← g2.length, ← g5.length]; exact hl, ?_⟩
            exact p m F _ _ Le.refl (S.setL hn hx (g2.append g5)) .non
          · exact p.elim
        · exact p.elim
  · exact p.elim
end
end Den

namespace Den
open PySem PySem.Spec PyProof.Rows L2 RZ
section
variable {T : Tab} {X : Cx} {W : WX} {m m' : List Addr} {F F' H H' : Hp} {G : Frm} {st st' : List O}
/-- a def of the text whose code object is known: it makes lambdas -/
structure DefAtL (T : Tab) (x qual : Str) (s0 : Stmt) (n : Nat) (ps : List Str) (c : Addr) : Prop where
  ex : ∃ (oc kV doc pm ct : Value) (od an : Option Addr) (osl : Array (Option Value)), T.K.lookup (T.fad n) = some ⟨oc, od, .func (PySem.W.fnOf x qual (defArgs s0) (defBody s0) (defScope s0) .none kV doc pm an (.ref c) ct), osl⟩ ∧
    Binds T.K (PySem.W.fnOf x qual (defArgs s0) (defBody s0) (defScope s0) .none kV doc pm an (.ref c) ct) ps []
  cd : PySem.W.codeIn T.K (.ref c) qual = true
  kp : PySem.W.keepIn T.K (.ref (T.fad n)) = true
theorem cal_ofL {gb : Bool} {P : Program} {w : World} {mg : Str → Option Value} {base : Heap} {x qual : Str} {s0 : Stmt} {n : Nat} {N ps : List Str} {k : Nat} {b : DS} {c : Addr} (D0 : DefAtL T x qual s0 n ps c) (Sc : FnScope N ps (defScope s0))
    (hb : ∀ (A : Around) (outer : List Env) (s : Shared) (H : Hp) (E : XK), (gb = true → A.guards = some []) → Room k (A.deeper (envOfC qual (defScope s0) s.heap.objs.size (T.fad n) (.ref c))) →
      SSs T (cxOf (L2.CX P w) P w T.K mg base N qual (defScope s0) (T.fad n) (.ref c) A outer s H E) (WF E) (defBody s0) b) : CalG T P w mg base gb (k + 1) n (ar ps.length (runF N.length b)) := by
  obtain ⟨oc, kV, doc, pm, ct, od, an, osl, lk, B⟩ := D0.ex
  exact ⟨⟨_, ps, fnG_ar (fn_den_at lk D0.cd Sc hb), B, fun ds st h => if_neg h⟩, D0.kp⟩
/-- the clauses of a def that is a try alone, and what it says where all goes well -/
def tryHds (s : Stmt) : List ExceptHandler := match defBody s with
  | .Try _ h _ _ _ :: _ => h
  | _ => []
def fineOf (s : Stmt) : Expr := match defBody s with
  | [_, .Return (some e) _] => e
  | _ => .Constant .none 0 ⟨0, 0, 0, 0⟩
/-- what the name of a lambda begins with -/
def lamQ (env : Env) : Str := env.qual ++ "<lambda>"
/-- x(lambda: e) -/
theorem se_metF {x a : Str} {s1 : Stmt} {n k Nn : Nat} {c P : Addr} {Ng : List Str} {isub : Nat → Nat → Option Bool} {xfs : Nat → List Str} {l : List Clause} {fine : DE} {fineE : Expr} {h₀ : ExceptHandler} {hds : List ExceptHandler} {p1 p2 p3 p8 p9 : Pos} {params : Arguments} {body : Expr} {scope : Scope} {db : DE} {p lpos pos : Pos}
    (hbd : defBody s1 = [.Try [.Expr (.Call (.Name a p1) [] [] p2) p3] (h₀ :: hds) [] [] p8, .Return (some fineE) p9]) (hNn : Ng.length = Nn) (D1 : DefAt T x x s1 n [a]) (hxf : T.xfs = xfs) (hK : X.K = T.K) (hg : Gl X x) (hm : X.mg x = some (.ref (T.fad n)))
    (Sg : FnScope Ng [a] (defScope s1)) (hNg : Ng[0]? = some a) (hva : Vis (defScope s1) a) (h0 : ∀ f : Addr, (L2.start Ng [V.ref f])[0]? = some (some (V.ref f)))
    (hcl : ∀ cdv A outer s H, Cls T (cxOf C8.CX0 X.prog X.w X.K X.mg X.base Ng x (defScope s1) (T.fad n) cdv A outer s H C8.E0).nox W0 isub (tryHds s1) l)
    (hfi : ∀ cdv A outer s H, SE T (cxOf C8.CX0 X.prog X.w X.K X.mg X.base Ng x (defScope s1) (T.fad n) cdv A outer s H C8.E0).nox W0 (fineOf s1) fine) (TB : LamX.TabB X.base X.mg c P) (hcode : X.env.code = .ref c) (hmT : (P, lamQ X.env) ∈ T.tbs) (hu : ∀ q ∈ T.tbs, q.1 = P → q.2 = lamQ X.env)
    (hr : Room (k + 2) X.A) (L : LamX.LamS X.env.scope scope) (hdef : defaultsOf params X.env = ([], [])) (hbind : ∀ (q : Str) (cl : List (Str × Addr)) (pm cv ctv : Value), bindArgs (PySem.W.kla_fn "<lambda>" q params body scope cl pm cv ctv) ⟨[], []⟩ = pure [])
    (hbody : ∀ (A : Around) (outer : List Env) (s : Shared) (H : Hp) (E : XK) (f c' : Addr), Room k (A.deeper (LamX.lamEnv X scope s.heap.objs.size f c')) → SE T (LamX.lamCx X A outer s H E scope f c') (WF E) body db)
    (hdb : (x == ("__debug__" : Str)) = false := by decide) (hd : (a == ("__debug__" : Str)) = false := by decide) (hcd : (a == ("__classdict__" : Str)) = false := by decide) :
    SE T X W (.Call (.Name x p) [.Lambda params body scope lpos] [] pos) (dMet isub xfs l fine Nn db) := by
  subst hNn
  subst hxf
  obtain ⟨fd, Fx, B⟩ := D1.ex
  obtain ⟨oc, od, kV, doc, pm, an, cdv, ct, osl, rfl, lk, hcg⟩ := Fx.ex
  have e1 : tryHds s1 = h₀ :: hds := by unfold tryHds; rw [hbd]
  have e2 : fineOf s1 = fineE := by unfold fineOf; rw [hbd]
  rw [e1] at hcl
  rw [e2] at hfi
  rw [hbd] at lk B
  exact se_met hg hm (by rw [hK]; exact Fx.kp) (by rw [hK]; exact lk) (by rw [hK]; exact hcg) (by rw [hK]; exact B) Sg hNg hva h0 (fun s H => hcl cdv X.A X.stack s H) (fun s H => hfi cdv X.A X.stack s H) TB hcode hmT hu hr L hdef hbind hbody hdb hd hcd
theorem se_xfF {X : Cx} {xfs : Nat → List Str} {xa : Option (Addr × Addr × Nat)} {a : Addr} {oe : Obj} {cls : Value} {da : Option Addr} {pn : List (Addr × Obj)} {e : Expr} {d : DE} {pos : Pos} {f : Str} {ok : Nat → Bool} (hx : T.xfs = xfs) (hot : Hot T xa a oe cls da) (hk : ∀ c, ok c = true → XfC X.K (T.cad c) ∧ PySem.W.findIn X.K (.ref (T.cad c)) f = some none)
    (he : SE (T.wx xa) (X.suite a ((a, oe) :: pn)) W e d) (hb : attributeBase e f X.env (eval e X.env) = eval e X.env := by rfl) : SE (T.wx xa) (X.suite a ((a, oe) :: pn)) W (.Attribute e f pos) (dXf ok xfs f d) := by
  subst hx
  exact se_xf hot hk he hb
theorem ss_tryF {isub : Nat → Nat → Option Bool} {xfs : Nat → List Str} {body : List Stmt} {h₀ : ExceptHandler} {hds : List ExceptHandler} {pos : Pos} {b : DS} {l : List Clause} (hx : T.xfs = xfs) (hs : X.stack = X.env :: X.outer) (hf : X.env.frame = some X.env.locals)
    (hb : ∀ (W : WX) (pn : List (Addr × Obj)) (xe : Value → Shared → Prop), Takes (X.tr pn xe) W → PassesOwn (model X.prog X.w) X.A X.env xe → SSs T (X.tr pn xe) W body b) (hc : Cls T X W isub (h₀ :: hds) l) : SS T X W (.Try body (h₀ :: hds) [] [] pos) (sTry isub xfs b l) := by
  subst hx
  exact ss_try hs hf hb hc
end
end Den

namespace Den
open PySem PySem.Spec PyProof.Rows L2 RZ
/-! ### lambdas with parameters, as values -/
section
variable {T : Tab} {X : Cx} {W : WX} {m m' : List Addr} {F F' H H' : Hp} {G : Frm} {st st' : List O} {pins : List (Addr × Obj)} {σ : L2.St} {s : Shared}
theorem lamO_ok {P : Program} {w : World} {H : Hp} {h : Heap} {a c' : Addr} {d : LamD} {pm ctv : Value} (e : h.get? a = some (PySem.W.kla_obj "<lambda>" d.q d.params d.body d.scope [] pm c' ctv)) : ObjOk P w H h a (LamO d a c') :=
  ⟨⟨pm, ctv, e⟩, ⟨_, e⟩, fun h1 h2 ⟨pm, ctv, z⟩ k => ⟨pm, ctv, k _ z⟩⟩
/-- the lambda is made, its function object is known from now on -/
theorem lam_make3 {Tb : List (Addr × Str)} {c P : Addr} {d : LamD} {pos : Pos} {E : Value → Shared → Prop} {Q : Value → Shared → Prop} (hq : d.q = X.env.qual ++ "<lambda>") (I : Inv X pins σ H s) (TB : LamX.TabB X.base X.mg c P) (hcode : X.env.code = .ref c)
    (hm : (P, X.env.qual ++ "<lambda>") ∈ Tb) (hu : ∀ p ∈ Tb, p.1 = P → p.2 = X.env.qual ++ "<lambda>") (hT : LamX.Tabs Tb H) (hdef : defaultsOf d.params X.env = ([], [])) (hfree : ∀ y ∈ d.scope.names, y.2 = .free → ∃ c, X.env.cells.lookup y.1 = some c) (hclo : cloFrom X.env.cells d.scope.names [] = [])
    (h : ∀ (f c' : Addr) (H1 : Hp) (s' : Shared), H1 f = none → Inv X pins σ (upd H1 f (LamO d f c')) s' → LamX.ExtN H H1 → LamX.Tabs Tb H1 → H1 c' = some (LamX.CodeO c' d.q) → f ≠ c' → Q (.ref f) s') :
    wpAny (model X.prog X.w) X.A (eval (.Lambda d.params d.body d.scope pos) X.env) Q E s := by
  obtain ⟨ps, hP, ht, ha⟩ := hT _ hm
  refine PySem.W.kla_eval hdef ?_
  have bP : s.heap.BuiltinsAt X.mg P := TB.bm.keeps I.bk
  have hP' : s.heap.get? P = some { cls := .none, data := .fields ps } := I.hok P _ hP
  cases hc : codeAmong pos ps.toList with
  | none =>
    refine PySem.W.kla_makeFunction (mg := X.mg) (c := c) (P := P) (ps := ps) (closure_ok hfree) I.ok.glob (I.mod.glob.keeps I.bk) hcode (TB.code.keeps I.bk) hP' ht hc TB.gP bP fun c' ctv h' tk hx hge hlt hrec htb => ?_
    obtain ⟨c2, oc, vs, t, e2, hoc, hd, hv⟩ := hrec
    cases e2
    have hsz : s.heap.objs.size ≤ h'.objs.size := Nat.le_trans hge (Nat.le_of_lt hlt)
    have nC : H c' = none := I.hok.fresh hge
    have I1 := LamX.inv_table (t' := tk) (more := #[rawInt pos.line, rawInt pos.col, .ref c']) (h' := h') I hP (fun b o hb e => hx b o hb e) htb hge ⟨oc, vs, t, hoc, hd, hv⟩
    have hE : LamX.ExtN H (upd (upd H P (.tbl (ps ++ #[rawInt pos.line, rawInt pos.col, .ref c']))) c' (LamX.CodeO c' (X.env.qual ++ "<lambda>"))) := fun b o e n => by
      rw [upd_ne (ne_of_none e nC), upd_ne (fun z => n ps (Option.some.inj (e.symm.trans (by rw [z]; exact hP))))]
      exact e
    have eL : (ps ++ #[rawInt pos.line, rawInt pos.col, .ref c']).toList = ps.toList ++ [rawInt pos.line, rawInt pos.col, .ref c'] := by simp
    have fr : upd (upd H P (.tbl (ps ++ #[rawInt pos.line, rawInt pos.col, .ref c']))) c' (LamX.CodeO c' (X.env.qual ++ "<lambda>")) h'.objs.size = none := I1.hok.fresh (Nat.le_refl _)
    have n1 : h'.objs.size ≠ c' := Nat.ne_of_gt hlt
    have I2 := I1.laid (a := h'.objs.size) (o := LamO d h'.objs.size c') (h' := h'.push (PySem.W.kla_obj "<lambda>" (X.env.qual ++ "<lambda>") d.params d.body d.scope (cloFrom X.env.cells d.scope.names []) ((X.mg "__name__").getD .none) c' ctv)) (t' := tk)
      (fun b u e => Heap.get?_push_of_some _ e) (Nat.le_refl _) (lamO_ok (pm := (X.mg "__name__").getD .none) (ctv := ctv) (by rw [hclo, hq]; exact Heap.get?_push_size _ rfl))
    refine h h'.objs.size c' _ _ fr I2 hE (fun p hp => ?_) (by rw [hq]; exact upd_same) n1
    · by_cases hb : p.1 = P
      · rw [hu p hp hb, hb]
        refine ⟨_, by rw [upd_ne (ne_of_none hP nC), upd_same], by rw [eL]; exact PySem.TriplesOk_snoc _ _ _ _ ht, fun p' cv hcv => ?_⟩
        rw [eL] at hcv
        rcases LamX.among_app _ ht hcv with z | z
        · obtain ⟨c0, e1, e2⟩ := ha p' cv z
          exact ⟨c0, e1, hE _ _ e2 LamX.codeO_ne⟩
        · exact ⟨c', z, upd_same⟩
      · obtain ⟨ps', a1, a2, a3⟩ := hT p hp
        refine ⟨ps', by rw [upd_ne (ne_of_none a1 nC), upd_ne hb]; exact a1, a2, fun p' cv hcv => ?_⟩
        obtain ⟨c0, e1, e2⟩ := a3 p' cv hcv
        exact ⟨c0, e1, hE _ _ e2 LamX.codeO_ne⟩
  | some cv =>
    obtain ⟨c', e, hco⟩ := ha pos cv hc
    subst e
    refine PySem.W.kla_makeFunctionHit (mg := X.mg) (c := c) (P := P) (ps := ps) (closure_ok hfree) I.ok.glob (I.mod.glob.keeps I.bk) hcode (TB.code.keeps I.bk) hP' ht hc bP fun ctv h' tk hx hsz => ?_
    have I1 : Inv X pins σ H { s with heap := h', toks := tk } := I.kept fun b o e => hx b o e
    have fr : H h'.objs.size = none := I1.hok.fresh (Nat.le_refl _)
    have I2 := I1.laid (a := h'.objs.size) (o := LamO d h'.objs.size c') (h' := h'.push (PySem.W.kla_obj "<lambda>" (X.env.qual ++ "<lambda>") d.params d.body d.scope (cloFrom X.env.cells d.scope.names []) ((X.mg "__name__").getD .none) c' ctv)) (t' := tk)
      (fun b u e => Heap.get?_push_of_some _ e) (Nat.le_refl _) (lamO_ok (pm := (X.mg "__name__").getD .none) (ctv := ctv) (by rw [hclo, hq]; exact Heap.get?_push_size _ rfl))
    exact h h'.objs.size c' H _ fr I2 (LamX.ExtN.refl H) hT (by rw [hq]; exact hco) (ne_of_none hco fr).symm
theorem codeO_not_lst {c : Addr} {q : Str} {vs : List V} : LamX.CodeO c q ≠ .lst vs := fun z => by unfold LamX.CodeO at z; cases z
theorem codeO_not_ins {c : Addr} {q : Str} {C dx : Addr} {fs : List (Str × V)} : LamX.CodeO c q ≠ .ins C dx fs := fun z => by unfold LamX.CodeO at z; cases z
/-- a code object is known for ever -/
theorem Sim.code {c : Addr} {q : Str} (S : Sim T G m st F H) (hc : H c = some (LamX.CodeO c q)) : Sim T G m st (upd F c (LamX.CodeO c q)) H ∧ Le m F m (upd F c (LamX.CodeO c q)) := by
  have gp : G.g c = none := by
    cases e : G.g c with
    | none => rfl
    | some o =>
      have := S.frm c o e
      rcases S.gnt c o e with ⟨vs, z⟩ | ⟨C, dx, fs, z⟩ <;> rw [hc, z] at this
      · exact absurd (Option.some.inj this) codeO_not_lst
      · exact absurd (Option.some.inj this) codeO_not_ins
  have cell : ∀ n o a, st[n]? = some o → m[n]? = some a → a ≠ c := fun n o a e1 e2 z => by
    have h := S.cells n o a e1 e2
    cases o with
    | lst ds => obtain ⟨vs, h1, _⟩ := h; rw [z, hc] at h1; exact codeO_not_lst (Option.some.inj h1)
    | ins c' fs => obtain ⟨dx, vs, h1, _⟩ := h; rw [z, hc] at h1; exact codeO_not_ins (Option.some.inj h1)
    | lent ds => obtain ⟨vs, h1, _⟩ := h; rw [z, hc] at h1; exact codeO_not_lst (Option.some.inj h1)
  have l : Le m F m (upd F c (LamX.CodeO c q)) := ⟨fun _ _ h => h, fun b u e => by
    by_cases hb : b = c
    · subst hb; have := S.sub b u e; rw [hc] at this; rw [upd_same]; exact this
    · rw [upd_ne hb]; exact e⟩
  refine ⟨{ S with gF := fun b u e => ?_, sub := fun b u e => ?_, cells := fun n u a e1 e2 => ?_, lnt := fun n a xs e1 e2 => ?_, fnt := fun b ps e => ?_ }, l⟩
  · rw [upd_ne (ne_of_none e gp)]; exact S.gF b u e
  · by_cases hb : b = c
    · subst hb; rw [upd_same] at e; cases e; exact hc
    · rw [upd_ne hb] at e; exact S.sub b u e
  · have h := S.cells n u a e1 e2
    refine h.le l ?_ fun w e => e
    rw [upd_ne (cell n u a e1 e2)]
    exact h.fr
  · obtain ⟨ws, h1, h2⟩ := S.lnt n a xs e1 e2
    exact ⟨ws, h1, Reps.le l h2⟩
  · by_cases hb : b = c
    · subst hb; rw [upd_same] at e; cases e
    · rw [upd_ne hb] at e; exact S.fnt b ps e
theorem lamO_ne {d : LamD} {a c' : Addr} : ∀ ps, LamO d a c' ≠ .tbl ps := fun ps z => by unfold LamO at z; cases z
/-- lambda a, b: e -/
theorem se_lamV {c P : Addr} {n : Nat} {params : Arguments} {body : Expr} {scope : Scope} {pos : Pos} (hl : T.lms n = ⟨lamQ X.env, params, body, scope⟩) (TB : LamX.TabB X.base X.mg c P) (hcode : X.env.code = .ref c) (hmT : (P, lamQ X.env) ∈ T.tbs) (hu : ∀ q ∈ T.tbs, q.1 = P → q.2 = lamQ X.env)
    (hdef : defaultsOf params X.env = ([], [])) (hfree : ∀ y ∈ scope.names, y.2 ≠ .free) (hclo : cloFrom X.env.cells scope.names [] = []) : SE T X W (.Lambda params body scope pos) (dC (.lam n)) := by
  refine ⟨?_⟩
  intro G m F env st σ H Q at0 h pins s II
  refine lam_make3 (d := ⟨lamQ X.env, params, body, scope⟩) rfl II TB hcode hmT hu at0.sim.tab hdef (fun y hy e => absurd e (hfree y hy)) hclo fun f c' H1 s' fr I2 eN t1 hc nf => ?_
  have S1 := at0.sim.extN eN t1
  obtain ⟨S2, l2⟩ := S1.code hc
  have S3 := S2.laid (o := LamO ⟨lamQ X.env, params, body, scope⟩ f c') fr lamO_ne
  have hc2 : (upd (upd F c' (LamX.CodeO c' (lamQ X.env))) f (LamO ⟨lamQ X.env, params, body, scope⟩ f c')) c' = some (LamX.CodeO c' (lamQ X.env)) := by rw [upd_ne nf.symm, upd_same]
  exact ⟨.ref f, _, I2, rfl, h m _ _ (.ref f) (l2.trans S3.2) S3.1 (.lam (by rw [hl]; exact upd_same) (by rw [hl]; exact hc2))⟩
/-- its body, run -/
def runL (np : Nat) (db : DE) (ds : List D) (st : List O) : R D := if ds.length = np then popR st.length (db (ds.map some ++ List.replicate (np - ds.length) none) st) else .no
/-- the n-th lambda keeps its promise -/
structure LamG (T : Tab) (P : Program) (w : World) (mg : Str → Option Value) (base : Heap) (k n np : Nat) (db : DE) : Prop where
  run : ∀ (f c' : Addr) (A : Around) (outer : List Env) (s : Shared) (H : Hp) (us : List Value) (vs : List V) (Q : VK) (E : XK) (G : Frm) (m : List Addr) (F : Hp) (st : List O) (ds : List D), Room k A → Env0 P w T.K mg base A outer s H → Vals vs us →
    H f = some (LamO (T.lms n) f c') → H c' = some (LamX.CodeO c' (T.lms n).q) → Sim T G m st F H → Reps T m F ds vs → Post T (RV T) G m F (runL np db ds st) Q E → codeAny (model P w) A (.call (.ref f) ⟨us, []⟩) (CR (L2.CX P w) outer P w H s Q E) s
theorem lamG_of {P : Program} {w : World} {mg : Str → Option Value} {base : Heap} {k n : Nat} {ps : List Str} {db : DE} (Sc : FnScope ps ps (T.lms n).scope)
    (hbd : ∀ (pm cv ctv : Value) (us : List Value), us.length = ps.length → bindArgs (PySem.W.kla_fn "<lambda>" (T.lms n).q (T.lms n).params (T.lms n).body (T.lms n).scope [] pm cv ctv) ⟨us, []⟩ = pure (ps.zip us))
    (hb : ∀ (f c' : Addr) (A : Around) (outer : List Env) (s : Shared) (H : Hp) (E : XK), Room k (A.deeper (envOfC (T.lms n).q (T.lms n).scope s.heap.objs.size f (.ref c'))) → SE T (cxOf (L2.CX P w) P w T.K mg base ps (T.lms n).q (T.lms n).scope f (.ref c') A outer s H E) (WF E) (T.lms n).body db) :
    LamG T P w mg base (k + 1) n ps.length db := by
  refine ⟨fun f c' A outer s H us vs Q E G m F st ds hr e0 r hf hc S rd p => ?_⟩
  have hl : ds.length = ps.length := by
    by_cases e : ds.length = ps.length
    · exact e
    · unfold runL at p; rw [if_neg e] at p; exact p.elim
  unfold runL at p
  rw [if_pos hl] at p
  have p' := Post.pop S p
  have lv : vs.length = ps.length := by rw [← rd.length]; exact hl
  have lu : us.length = ps.length := by rw [← r.length]; exact lv
  obtain ⟨⟨pm, ctv, ho⟩, _, _⟩ := e0.hok f _ hf
  obtain ⟨⟨oc, wv, t, hoc, hdc, hvc⟩, _, _⟩ := e0.hok c' _ hc
  have lim : s.heap.NoLimit := e0.mod.nolimit.keeps fun b o e => (e0.bs b o e).1
  have kinds : ∀ y ∈ ps.zip us, (T.lms n).scope.names.lookup y.1 = some .local ∨ ((T.lms n).scope.names.lookup y.1 = some .cell ∧ ((cellsFrom (s.heap.objs.size + 1) (T.lms n).scope.names []).lookup y.1).isSome = true) := by
    rintro ⟨x, v⟩ hy
    rcases Sc.par x (List.of_mem_zip hy).1 with z | z
    · exact .inl z
    · exact .inr ⟨z, PySem.W.cellsFrom_some _ _ _ (.inl z)⟩
  refine PySem.W.kla_callFunE hr.depth ho rfl Sc.co Sc.gen rfl ⟨c', oc, wv, t, rfl, hoc, hdc, hvc⟩ ?_
  rw [hbd _ _ _ _ lu]
  refine wpAny_pure (wpAny_newFunctionEnv_cells Sc.kind kinds fun env he s1 xc => ?_)
  subst he
  refine ⟨lim.keeps xc.toInCall.keep, ?_⟩
  have I0 : Inv (cxOf (L2.CX P w) P w T.K mg base ps (T.lms n).q (T.lms n).scope f (.ref c') A outer s H E) [] (L2.start ps vs) H s1 := inv_start (CX := L2.CX P w) (E := E) (N := ps) Sc hr.hd e0 lv r xc
  refine PySem.W.kla_codeExpr (wpAny_mono (hb f c' A outer s H E (hr.deeper _) G m F _ st (L2.start ps vs) H Q ⟨S, start_env (N := ps) rd, ?_⟩ p' [] s1 I0) (fun v s' hq => ?_) fun e s' hq => hq)
  · have e := rd.length
    unfold L2.start
    simp only [List.length_append, List.length_map, List.length_replicate]
    omega
  · obtain ⟨w', H', J', rv, q⟩ := hq
    exact ⟨w', H', J'.os, J'.bare, J'.base, J'.hok, rv, q⟩
theorem LamG.mono {P : Program} {w : World} {mg : Str → Option Value} {base : Heap} {j k n np : Nat} {db : DE} (L : LamG T P w mg base j n np db) (h : j ≤ k) : LamG T P w mg base k n np db :=
  ⟨fun f c' A outer s H us vs Q E G m F st ds hr => L.run f c' A outer s H us vs Q E G m F st ds (hr.mono h)⟩
/-- a def, or a lambda, that a name of one's own holds -/
def dFnW (ok : Nat → Bool) (call : Nat → List D → List O → R D) (okl : Nat → Bool) (cl : Nat → List D → List O → R D) (dv : DE) (da : DA) : DE := fun env st => (dv env st).bind fun f st1 => match f with
  | .fn n => if ok n then (da env st1).bind fun xs st2 => call n xs st2 else .no
  | .lam n => if okl n then (da env st1).bind fun xs st2 => cl n xs st2 else .no
  | _ => .no
theorem se_fnWal {x : Str} {k : Nat} {e : Expr} {es : List Expr} {p pos : Pos} {ok okl : Nat → Bool} {call : Nat → List D → List O → R D} {np : Nat → Nat} {db : Nat → DE} {dv : DE} {da : DA} (C : ∀ n, ok n = true → Cal T X false k n (call n)) (hK : X.K = T.K)
    (CL : ∀ n, okl n = true → LamG T X.prog X.w X.mg X.base k n (np n) (db n)) (hh : Here X W false k) (hv : SE T X W (.Name x p) dv) (ha : SA T X W (e :: es) da)
    (he : starEach (e :: es) X.env = (false, eval e X.env) :: starEach es X.env := by exact star_of rfl) (hpl : (backTo pos (starEach es X.env)).any (·.1) = false := by exact hpl_of rfl) : SE T X W (.Call (.Name x p) (e :: es) [] pos) (dFnW ok call okl (fun n => runL (np n) (db n)) dv da) := by
  refine ⟨?_⟩
  intro G m F env st σ H Q at0 h pins s II
  refine wpAny_Call_Name_kw ?_
  refine thn (hv _ m F env st σ H (fun v H1 => ∃ m1 F1 st1, Le m F m1 F1 ∧ Sim T G m1 st1 F1 H1 ∧ ((∃ n, v = .ref (T.fad n) ∧ ok n = true ∧ Post T (RV T) G m1 F1 ((da env st1).bind fun xs st2 => call n xs st2) Q (fun c da H' => W c da σ H')) ∨
      ∃ n f c', v = .ref f ∧ okl n = true ∧ F1 f = some (LamO (T.lms n) f c') ∧ F1 c' = some (LamX.CodeO c' (T.lms n).q) ∧ Post T (RV T) G m1 F1 ((da env st1).bind fun xs st2 => runL (np n) (db n) xs st2) Q (fun c da H' => W c da σ H'))) at0 (Post.bind h fun f st1 m1 F1 H1 v e1 l1 S1 r1 h1 => ?_) pins s II) fun u s1 got => ?_
  · cases r1 with
    | fn n =>
      have h1 : Post T (RV T) G m1 F1 (if ok n then (da env st1).bind fun xs st2 => call n xs st2 else .no) Q (fun c da H' => W c da σ H') := h1
      split at h1
      · rename_i hk
        exact ⟨m1, F1, st1, l1, S1, .inl ⟨n, rfl, hk, h1⟩⟩
      · exact h1.elim
    | lam g1 g2 =>
      rename_i n _ _
      have h1 : Post T (RV T) G m1 F1 (if okl n then (da env st1).bind fun xs st2 => runL (np n) (db n) xs st2 else .no) Q (fun c da H' => W c da σ H') := h1
      split at h1
      · rename_i hk
        exact ⟨m1, F1, st1, l1, S1, .inr ⟨n, _, _, rfl, hk, g1, g2, h1⟩⟩
      · exact h1.elim
    | _ => exact h1.elim
  · obtain ⟨v, H1, I1, r1, m1, F1, st1, l1, S1, q⟩ := got
    rcases q with ⟨n, ev, hk, h1⟩ | ⟨n, f, c', ev, hk, g1, g2, h1⟩
    · subst ev
      cases r1
      obtain ⟨fd, ps, Fo, hb, hn⟩ := (C n hk).ex
      refine PySem.W.callWith_K (h₀ := X.base) I1.ok.mod.kin (C n hk).kp (thn (ha _ m1 F1 env st1 σ H1 (fun vs H2 => ∃ m2 F2 st2 xs, Sim T G m2 st2 F2 H2 ∧ Reps T m2 F2 xs vs ∧ Post T (RV T) G m2 F2 (call n xs st2) Q (fun c da H' => W c da σ H')) (at0.next l1 S1)
        (Post.bind h1 fun xs st2 m2 F2 H2 vs e2 l2 S2 r2 h2 => ⟨m2, F2, st2, xs, S2, r2, h2⟩) pos pins s1 I1) fun us s2 got => ?_) he hpl
      obtain ⟨vs, H2, I2, r2, m2, F2, st2, xs, S2, r3, h2⟩ := got
      exact ⟨I2.kIn, run_fng Fo hh hb I2 r2 (spD_of hn S2 r3 h2)⟩
    · subst ev
      cases r1
      have at1 := at0.next l1 S1
      obtain ⟨⟨pm, ctv, ho⟩, _, _⟩ := I1.hok f _ (S1.sub _ _ g1)
      refine PySem.W.callWith_F ⟨_, _, _, _, ho⟩ (thn (ha _ m1 F1 env st1 σ H1 (fun vs H2 => ∃ m2 F2 st2 xs, Le m1 F1 m2 F2 ∧ Sim T G m2 st2 F2 H2 ∧ Reps T m2 F2 xs vs ∧ Post T (RV T) G m2 F2 (runL (np n) (db n) xs st2) Q (fun c da H' => W c da σ H')) at1
        (Post.bind h1 fun xs st2 m2 F2 H2 vs e2 l2 S2 r2 h2 => ⟨m2, F2, st2, xs, l2, S2, r2, h2⟩) pos pins s1 I1) fun us s2 got => ?_) he hpl
      obtain ⟨vs, H2, I2, r2, m2, F2, st2, xs, l2, S2, r3, h2⟩ := got
      have q1 := S2.sub _ _ (l2.F _ _ g1)
      have q2 := S2.sub _ _ (l2.F _ _ g2)
      obtain ⟨⟨pm2, ctv2, ho2⟩, _, _⟩ := I2.hok f _ q1
      refine ⟨⟨_, _, _, _, ho2⟩, ?_⟩
      refine wpAny_call (codeAny_mono ((CL n hk).run f c' X.A X.stack s2 H2 us vs Q (WE W σ) G m2 F2 st2 xs hh.room (by rw [← hK]; exact I2.env0) r2 q1 q2 S2 r3 h2) fun res s' out => ?_)
      cases res with
      | error e => exact passAt hh.tk σ pins H2 s2 e s' I2 out
      | ok fl =>
        cases fl with
        | ret u => exact I2.after out
        | _ => exact False.elim out
end
end Den

namespace Den
open PySem PySem.Spec PyProof.Rows L2 RZ
/-! ### words for the script: where a lambda stands -/
/-- the lambda at place j of the tuple that the i-th statement of a def walks -/
def lamAt (q : Str) (s : Stmt) (i j : Nat) : LamD := match (defBody s).getD i (.Pass ⟨0, 0, 0, 0⟩) with
  | .For _ (.Tuple es _ _) _ _ _ => (match es.getD j (.Constant .none 0 ⟨0, 0, 0, 0⟩) with
    | .Lambda p b sc _ => ⟨q, p, b, sc⟩
    | e => ⟨q, { posonlyargs := [], args := [], vararg := none, kwonlyargs := [], kw_defaults := [], kwarg := none, defaults := [] }, e, ⟨.function, [], false, false, []⟩⟩)
  | _ => ⟨q, { posonlyargs := [], args := [], vararg := none, kwonlyargs := [], kw_defaults := [], kwarg := none, defaults := [] }, .Constant .none 0 ⟨0, 0, 0, 0⟩, ⟨.function, [], false, false, []⟩⟩
theorem lm_at {T : Tab} {lms : Nat → LamD} {n : Nat} {d : LamD} (h : T.lms = lms) (e : lms n = d) : T.lms n = d := by rw [h, e]
theorem lamG_at {T : Tab} {P : Program} {w : World} {mg : Str → Option Value} {base : Heap} {k n : Nat} {ps : List Str} {db : DE} {lms : Nat → LamD} {d : LamD} (h : T.lms = lms) (e : lms n = d) (Sc : FnScope ps ps d.scope)
    (hbd : ∀ (pm cv ctv : Value) (us : List Value), us.length = ps.length → bindArgs (PySem.W.kla_fn "<lambda>" d.q d.params d.body d.scope [] pm cv ctv) ⟨us, []⟩ = pure (ps.zip us))
    (hb : ∀ (f c' : Addr) (A : Around) (outer : List Env) (s : Shared) (H : Hp) (E : XK), Room k (A.deeper (envOfC d.q d.scope s.heap.objs.size f (.ref c'))) → SE T (cxOf (L2.CX P w) P w T.K mg base ps d.q d.scope f (.ref c') A outer s H E) (WF E) d.body db) :
    LamG T P w mg base (k + 1) n ps.length db := by
  have e2 := lm_at h e
  refine lamG_of (by rw [e2]; exact Sc) (by rw [e2]; exact hbd) (by rw [e2]; exact hb)
end Den

namespace Den
open PySem PySem.Spec PyProof.Rows L2 RZ
/-! ### the end: what the head tells, as the derivations want it -/
/-- an own class of exceptions over the built-in tail bmB -/
def xclsB (K : PySem.W.Frag) (C : Addr) (bmB : List Value) (newId : String) : Bool := match K.lookup C with
  | some ⟨.type "type", _, .cls cd, sl⟩ => (match cd.mro, sl.toList with
    | .ref C2 :: tl, [_, _, _, _, some (.builtin n), _] => decide (C2 = C) && (decide (n = newId) && (cd.hasDict && (!cd.hasDel && decide (tl.dropWhile isRefV = bmB))))
    | _, _ => false)
  | _ => false
theorem xclsB_ok {K : PySem.W.Frag} {C : Addr} {bmB : List Value} {newId : String} (q : xclsB K C bmB newId = true) :
    ∃ nm qn N bs bm sn sub ab col dd k0 k1 k2 k3 k5, K.lookup C = some (excClassObj nm qn C N bs bm true sn sub ab col dd k0 k1 k2 k3 k5 newId) ∧ bm.dropWhile isRefV = bmB := by
  unfold xclsB at q
  split at q
  · rename_i dd cd sl ho
    split at q
    · rename_i C2 tl k0 k1 k2 k3 n k5 hm hs
      simp only [Bool.and_eq_true, decide_eq_true_eq, Bool.not_eq_true'] at q
      obtain ⟨rfl, rfl, hd, hl, ht⟩ := q
      obtain ⟨nm, bs, mro, ns, qn, hdct, sn, sub, ab, col, del⟩ := cd
      dsimp only at hm hd hl
      subst hm hd hl
      obtain ⟨sl⟩ := sl
      simp only at hs
      subst hs
      exact ⟨nm, qn, ns, bs, tl, sn, sub, ab, col, dd, k0, k1, k2, k3, k5, ho, ht⟩
    · cases q
  · cases q
/-- no keyword defaults -/
def kvB (K : PySem.W.Frag) (f : Addr) : Bool := match K.lookup f with
  | some ⟨_, _, .func fd, _⟩ => (match fd.kwdefaults with
    | .none => true
    | _ => false)
  | _ => false
section
variable {T : Tab} {P : Program} {w : World} {mg : Str → Option Value} {base : Heap}
theorem defAt_of {x qual : Str} {s0 : Stmt} {n : Nat} {ps : List Str} {fd : FuncData} (F : FunD T.K x qual (defArgs s0) (defBody s0) (defScope s0) [] [] (T.fad n) fd)
    (h : ∀ (kV doc pm : Value) (an : Option Addr) (cdv ct : Value) (us : List Value), us.length = ps.length → bindArgs (PySem.W.fnOf x qual (defArgs s0) (defBody s0) (defScope s0) .none kV doc pm an cdv ct) ⟨us, []⟩ = pure (ps.zip us)) : DefAt T x qual s0 n ps := by
  refine ⟨fd, ?_, F.bindsN h⟩
  obtain ⟨oc, od, dV, kV, doc, pm, an, cdv, ct, osl, rfl, lk, hcd, hD, hK⟩ := F.ex
  rcases hD with ⟨_, rfl⟩ | ⟨e, _⟩
  · exact ⟨⟨oc, od, kV, doc, pm, an, cdv, ct, osl, rfl, lk, hcd⟩, F.kp⟩
  · exact absurd rfl e
theorem defAtL_of {x qual : Str} {s0 : Stmt} {n : Nat} {ps : List Str} {fd : FuncData} {p : Str × Option Str} (hp : T.fad n = He.fAd T.K p) (F : FunD T.K x qual (defArgs s0) (defBody s0) (defScope s0) [] [] (T.fad n) fd)
    (h : ∀ (kV doc pm : Value) (an : Option Addr) (cdv ct : Value) (us : List Value), us.length = ps.length → bindArgs (PySem.W.fnOf x qual (defArgs s0) (defBody s0) (defScope s0) .none kV doc pm an cdv ct) ⟨us, []⟩ = pure (ps.zip us)) : DefAtL T x qual s0 n ps (He.codeOf T.K p) := by
  obtain ⟨oc, od, dV, kV, doc, pm, an, cdv, ct, osl, rfl, lk, hcd, hD, hK⟩ := F.ex
  rcases hD with ⟨_, rfl⟩ | ⟨e, _⟩
  · obtain ⟨c, rfl⟩ := He.codeIn_ref hcd
    have e := He.codeOf_eq (K := T.K) (p := p) (c := c) (by rw [← hp]; exact lk) rfl
    rw [e]
    exact ⟨⟨oc, kV, doc, pm, ct, od, an, osl, lk, F.bindsN h⟩, hcd, F.kp⟩
  · exact absurd rfl e
/-- no keyword default, so it is none -/
theorem kv_none {K : PySem.W.Frag} {x qual : Str} {params : Arguments} {body : List Stmt} {scope : Scope} {f : Addr} {fd : FuncData} (F : FunD K x qual params body scope [] [] f fd) (h : kvB K f = true) :
    ∃ oc od doc pm an cdv ct osl, K.lookup f = some ⟨oc, od, .func (PySem.W.fnOf x qual params body scope .none .none doc pm an cdv ct), osl⟩ ∧ PySem.W.codeIn K cdv qual = true := by
  obtain ⟨oc, od, dV, kV, doc, pm, an, cdv, ct, osl, rfl, lk, hcd, hD, hK⟩ := F.ex
  rcases hD with ⟨_, rfl⟩ | ⟨e, _⟩
  · unfold kvB at h
    rw [lk] at h
    cases kV with
    | none => exact ⟨oc, od, doc, pm, an, cdv, ct, osl, lk, hcd⟩
    | _ => cases h
  · exact absurd rfl e
theorem fnOk_of {k : Nat} {f : Addr} {fd : FuncData} {ps : List Str} {sp : Sp} (h : FnG false P w T.K mg base k f fd ps sp) : FnOk P w T.K mg base (L2.CX P w) k f fd ps sp :=
  ⟨h.len, fun A outer s H args us vs Q E hr => h.run A outer s H args us vs Q E (fun e => by cases e) hr⟩
/-- the first state: the script's list alone is known -/
theorem sim_start {H : Hp} {a : Addr} {vs : List V} (hS : SqL T.K H a vs) (ht : ∀ q ∈ T.tbs, H q.1 = some (.tbl #[])) :
    ∃ F, Sim T ⟨fun _ => none, fun _ => none⟩ [] [] F H ∧ SqL T.K F a vs := by
  have hat : ∀ ps, H a = some (.tbl ps) → False ∨ True := fun _ _ => .inr trivial
  have tabs : LamX.Tabs T.tbs H := fun q hq => LamX.TabS.nil (ht q hq)
  have mk : ∀ F : Hp, Same F H → (∀ b ps, F b ≠ some (.tbl ps)) → Sim T ⟨fun _ => none, fun _ => none⟩ [] [] F H := fun F s n =>
    ⟨fun b o e => (by cases e), fun b o e => (by cases e), fun n a e => (by simp at e), fun n a o e => (by simp at e), fun b o e => (by cases e), fun b o e => (by cases e), s, rfl, fun n o a e => (by simp at e), fun i j a e => (by simp at e), fun n a e => (by simp at e), fun b o e => (by cases e),
      fun b o e => (by cases e), fun n a xs e => (by simp at e), n, tabs⟩
  rcases hS with (h | ⟨o, h⟩) | h
  · refine ⟨upd (fun _ => none) a (.lst vs), mk _ (fun b u e => ?_) (fun b ps e => ?_), .inl (.inl upd_same)⟩
    · by_cases hb : b = a
      · subst hb; rw [upd_same] at e; cases e; exact h
      · rw [upd_ne hb] at e; cases e
    · by_cases hb : b = a
      · subst hb; rw [upd_same] at e; cases e
      · rw [upd_ne hb] at e; cases e
  · refine ⟨upd (fun _ => none) a (.frz o (.lst vs)), mk _ (fun b u e => ?_) (fun b ps e => ?_), .inl (.inr ⟨o, upd_same⟩)⟩
    · by_cases hb : b = a
      · subst hb; rw [upd_same] at e; cases e; exact h
      · rw [upd_ne hb] at e; cases e
    · by_cases hb : b = a
      · subst hb; rw [upd_same] at e; cases e
      · rw [upd_ne hb] at e; cases e
  · exact ⟨fun _ => none, mk _ (fun b u e => (by cases e)) (fun b ps e => (by cases e)), .inr h⟩
theorem reps_ints {m : List Addr} {F : Hp} : ∀ ns : List Int, Reps T m F (ns.map D.int) (ns.map V.int)
  | [] => .nil
  | n :: ns => .cons (.int n) (reps_ints ns)
/-- what is to be shown of the law's own function -/
def TrueAt (call : List D → List O → R D) (n : Nat) : Prop := ∀ ns : List Int, ns.length ≤ n → (∀ z ∈ ns, Builtin.Int.intBits z ≤ 1048576) → ∃ st, call [.rol (ns.map D.int)] [] = .ok (.bl true) st
theorem law_sp {call : List D → List O → R D} {H : Hp} {a : Addr} {ns : List Int} {n : Nat} (h : TrueAt call n) (hl : ns.length ≤ n) (hb : ∀ z ∈ ns, Builtin.Int.intBits z ≤ 1048576) (ht : ∀ q ∈ T.tbs, H q.1 = some (.tbl #[])) (hS : SqL T.K H a (ns.map V.int)) :
    spD T 1 call [.ref a] H (fun v _ => v = .bl true) fun _ _ _ => False := by
  obtain ⟨F, S, hF⟩ := sim_start hS ht
  obtain ⟨st, e⟩ := h ns hl hb
  refine ⟨rfl, _, [], F, [], [.rol (ns.map D.int)], S, .cons (.rol hF (reps_ints ns)) .nil, ?_⟩
  rw [e]
  intro m' F' H' b l S' r
  cases r
  rfl
end
end Den

namespace Den
open PySem PySem.Spec PyProof.Rows L2 RZ
/-! ### the end, once for all laws -/
section
variable {T : Tab} {P : Program} {w : World} {mg : Str → Option Value}
theorem law_fn {x a : Str} {s0 : Stmt} {n k : Nat} {N : List Str} {fd : FuncData} {p : Str × Option Str} {b : DS} (hp : T.fad n = He.fAd T.K p) (F : FunD T.K x x (defArgs s0) (defBody s0) (defScope s0) [] [] (T.fad n) fd)
    (h1 : ∀ (kV doc pm : Value) (an : Option Addr) (cdv ct : Value) (us : List Value), us.length = [a].length → bindArgs (PySem.W.fnOf x x (defArgs s0) (defBody s0) (defScope s0) .none kV doc pm an cdv ct) ⟨us, []⟩ = pure ([a].zip us)) (Sc : FnScope N [a] (defScope s0)) :
    (∀ (s : Shared) (u : Value), BindsTo s fd ⟨[u], []⟩ [(a, u)]) ∧ ∀ base : Heap, (∀ (A : Around) (outer : List Env) (s : Shared) (H : Hp) (E : XK), Room k (A.deeper (envOfC x (defScope s0) s.heap.objs.size (T.fad n) (.ref (He.codeOf T.K p)))) →
      SSs T (cxOf (L2.CX P w) P w T.K mg base N x (defScope s0) (T.fad n) (.ref (He.codeOf T.K p)) A outer s H E) (WF E) (defBody s0) b) → FnOk P w T.K mg base (L2.CX P w) (k + 1) (T.fad n) fd [a] (spD T 1 (ar 1 (runF N.length b))) := by
  obtain ⟨oc, od, dV, kV, doc, pm, an, cdv, ct, osl, rfl, lk, hcd, hD, hK⟩ := F.ex
  rcases hD with ⟨_, rfl⟩ | ⟨e, _⟩
  · refine ⟨fun s u => .of_eq (h1 kV doc pm an cdv ct [u] rfl), fun base hb => ?_⟩
    obtain ⟨c, rfl⟩ := He.codeIn_ref hcd
    have e := He.codeOf_eq (K := T.K) (p := p) (c := c) (by rw [← hp]; exact lk) rfl
    rw [e] at hb
    exact fnOk_of (fnG_ar (fn_den_at (gb := false) lk hcd Sc fun A outer s H E _ hr => hb A outer s H E hr))
  · exact absurd rfl e
end
theorem ex_at {l : List (PySem.W.Frag → Bool)} {K : PySem.W.Frag} (h : (l.all fun f => f K) = true) (i : Nat) {f : PySem.W.Frag → Bool} (e : l[i]? = some f) : f K = true :=
  List.all_eq_true.mp h f (List.mem_of_getElem? e)
/-- the tables of the defs that make lambdas -/
def tbsOf (K : PySem.W.Frag) (l : List (He.Defn × Str)) : List (Addr × Str) := l.map fun p => ((He.cT K p.1).2, p.2)
def tbsB (l : List (He.Defn × Str)) (K : PySem.W.Frag) : Bool := decide (l.map fun p => (He.cT K p.1).2).Nodup
theorem tbs_mem {K : PySem.W.Frag} {l : List (He.Defn × Str)} (i : Nat) {p : He.Defn × Str} (e : l[i]? = some p) : ((He.cT K p.1).2, p.2) ∈ tbsOf K l := List.mem_map.mpr ⟨p, List.mem_of_getElem? e, rfl⟩
theorem tbs_u {K : PySem.W.Frag} : ∀ {l : List (He.Defn × Str)}, tbsB l K = true → ∀ p ∈ l, ∀ q ∈ tbsOf K l, q.1 = (He.cT K p.1).2 → q.2 = p.2 := by
  intro l h
  have h : (l.map fun p => (He.cT K p.1).2).Nodup := of_decide_eq_true h
  induction l with
  | nil => intro p hp; cases hp
  | cons y l ih =>
    rw [List.map_cons, List.nodup_cons] at h
    intro p hp q hq e
    rcases List.mem_cons.mp hp with rfl | hp
    · rcases List.mem_cons.mp (show q ∈ _ :: tbsOf K l from hq) with rfl | hq
      · rfl
      · obtain ⟨z, hz, rfl⟩ := List.mem_map.mp hq
        exact absurd (List.mem_map.mpr ⟨z, hz, e⟩) h.1
    · rcases List.mem_cons.mp (show q ∈ _ :: tbsOf K l from hq) with rfl | hq
      · exact absurd (List.mem_map.mpr ⟨p, hp, e.symm⟩) h.1
      · exact ih (decide_eq_true h.2) h.2 p hp q hq e
theorem sub_of {T : Tab} {l : List (Nat × Nat × Bool)} (h : (l.all fun t => decide (PySem.W.exmOne T.K (.ref (T.cad t.1)) (.ref (T.cad t.2.1)) = some t.2.2)) = true) : SubOk T T.K fun i j => (l.find? fun t => t.1 == i && t.2.1 == j).map fun t => t.2.2 := by
  intro i j b e
  dsimp only at e
  cases q : l.find? (fun t => t.1 == i && t.2.1 == j) with
  | none => rw [q] at e; cases e
  | some t =>
    rw [q] at e
    cases e
    have h1 := List.find?_some q
    have h2 := List.mem_of_find?_eq_some q
    simp only [Bool.and_eq_true, beq_iff_eq] at h1
    have h3 := of_decide_eq_true (List.all_eq_true.mp h t h2)
    rw [h1.1, h1.2] at h3
    exact h3
/-- an own exception class with one field -/
def xftB (x f newId : String) (bmB : List Value) (K : PySem.W.Frag) : Bool :=
  xclsB K (He.ga K x) bmB newId && (He.eqO (PySem.W.findIn K (.ref (He.ga K x)) "__setattr__") (some (some (.builtin "object.__setattr__"))) && (He.eqO (PySem.W.findIn K (.ref (He.ga K x)) f) (some none) &&
    (He.eqO (PySem.W.findIn K (.ref (He.ga K x)) "__init__") (some (some (.ref (He.ma K (He.ga K x) "__init__")))) && (decide (PySem.W.typeIn K (.ref (He.ma K (He.ga K x) "__init__")) = some (.type "function")) && (PySem.W.keepIn K (.ref (He.ga K x)) &&
    (decide (PySem.W.subIn K (.ref (He.ga K x)) (.type "BaseException") = some true) && (decide (PySem.W.typeIn K (.ref (He.ga K x)) = some (.type "type")) && kvB K (He.ma K (He.ga K x) "__init__"))))))))
theorem xft_of {K : PySem.W.Frag} {mg : Str → Option Value} {x f newId : String} {qual : Str} {bmB : List Value} {s0 : Stmt} {fd : FuncData} {p1 p2 q1 q2 q3 q4 : Pos} (h : xftB x f newId bmB K = true) (hm : mg x = some (.ref (He.ga K x)))
    (F : FunD K "__init__" qual (defArgs s0) (defBody s0) (defScope s0) [] [] (He.ma K (He.ga K x) "__init__") fd) (e1 : defArgs s0 = initP f p1 p2) (e2 : defBody s0 = initB f q1 q2 q3 q4) (e3 : defScope s0 = initS f)
    (lets : ∀ self, refuseLoop self "__setattr__" bmB = pure ()) (ob : bmB.contains (.type "object") = true) (self : (("self" : Str) == f) = false) (dbg : ((f : Str) == ("__debug__" : Str)) = false)
    (bind : ∀ (doc pm : Value) (an : Option Addr) (cdv ct : Value) (p1 p2 q1 q2 q3 q4 : Pos) (e : Addr) (v : Value), bindArgs (PySem.W.fnOf "__init__" qual (initP f p1 p2) (initB f q1 q2 q3 q4) (initS f) .none .none doc pm an cdv ct) ⟨[.ref e, v], []⟩ = pure [(("self" : Str), .ref e), ((f : Str), v)]) :
    ∃ fI, XfT K mg bmB newId x f qual (He.ga K x) fI := by
  unfold xftB at h
  obtain ⟨h1, h⟩ := He.ba h
  obtain ⟨h2, h⟩ := He.ba h
  obtain ⟨h3, h⟩ := He.ba h
  obtain ⟨h4, h⟩ := He.ba h
  obtain ⟨h5, h⟩ := He.ba h
  obtain ⟨h6, h⟩ := He.ba h
  obtain ⟨h7, h⟩ := He.ba h
  obtain ⟨h8, h9⟩ := He.ba h
  rw [e1, e2, e3] at F
  obtain ⟨oc, od, doc, pm, an, cdv, ct, osl, lk, hcd⟩ := kv_none F h9
  exact ⟨_, ⟨hm, xclsB_ok h1, lets, ob, He.eqO_ok h2, He.eqO_ok h3, He.eqO_ok h4, of_decide_eq_true h5, h6, of_decide_eq_true h7, of_decide_eq_true h8, self, dbg, bind, ⟨oc, od, doc, pm, an, cdv, ct, osl, p1, p2, q1, q2, q3, q4, lk, hcd⟩⟩⟩
end Den

namespace Den
open PySem PySem.Spec PyProof.Rows L2 RZ
/-! ### calls apart from what may change around them -/
/-- no object that may change is in it -/
def noC : Nat → D → Bool
  | 0, _ => false
  | f + 1, d => match d with
    | .cel _ => false
    | .tup xs => xs.all (noC f)
    | .lst xs => xs.all (noC f)
    | .rol xs => xs.all (noC f)
    | .ins _ xs => xs.all (noC f)
    | .exn _ xs => xs.all (noC f)
    | _ => true
section
variable {T : Tab} {X : Cx} {W : WX} {m m' : List Addr} {F F' H H' : Hp} {G : Frm} {st st' : List O}
mutual
theorem rep_noC : ∀ (f : Nat) {d : D} {v : V}, Rep T m F d v → noC f d = true → Rep T m' F d v
  | 0, _, _, _, e => by simp only [noC] at e; cases e
  | f + 1, _, _, .non, _ => .non
  | f + 1, _, _, .bl b, _ => .bl b
  | f + 1, _, _, .int i, _ => .int i
  | f + 1, _, _, .str x, _ => .str x
  | f + 1, _, _, .tup h r, e => by simp only [noC] at e; exact .tup h (reps_noC f r e)
  | f + 1, _, _, .lst h r, e => by simp only [noC] at e; exact .lst h (reps_noC f r e)
  | f + 1, _, _, .rol h r, e => by simp only [noC] at e; exact .rol h (reps_noC f r e)
  | f + 1, _, _, .cel h, e => by simp only [noC] at e; cases e
  | f + 1, _, _, .fn n, _ => .fn n
  | f + 1, _, _, .cls n, _ => .cls n
  | f + 1, _, _, .ty s, _ => .ty s
  | f + 1, _, _, .ins h e1 r, e => by simp only [noC] at e; exact .ins h e1 (reps_noC f r e)
  | f + 1, _, _, .dct0 h, _ => .dct0 h
  | f + 1, _, _, .lam h1 h2, _ => .lam h1 h2
  | f + 1, _, _, .exn x h e1 r, e => by simp only [noC] at e; exact .exn x h e1 (reps_noC f r e)
theorem reps_noC : ∀ (f : Nat) {ds : List D} {vs : List V}, Reps T m F ds vs → ds.all (noC f) = true → Reps T m' F ds vs
  | _, _, _, .nil, _ => .nil
  | f, _, _, .cons h r, e => by
    rw [List.all_cons, Bool.and_eq_true] at e
    exact .cons (rep_noC f h e.1) (reps_noC f r e.2)
end
def noLent (st : List O) : Bool := st.all fun o => !isLent o
open Classical in
/-- all that may change stands beside -/
noncomputable def Frm.hide (G : Frm) (m : List Addr) (H : Hp) : Frm := { G with g := fun b => if b ∈ m then H b else G.g b }
theorem hide_in {b : Addr} (h : b ∈ m) : (G.hide m H).g b = H b := if_pos h
theorem hide_out {b : Addr} (h : b ∉ m) : (G.hide m H).g b = G.g b := if_neg h
theorem Sim.at_ (S : Sim T G m st F H) {b : Addr} (h : b ∈ m) : ∃ (n : Nat) (o : O), m[n]? = some b ∧ st[n]? = some o := by
  obtain ⟨n, hn, e⟩ := List.mem_iff_getElem.mp h
  have hl : n < st.length := by rw [S.len]; exact hn
  exact ⟨n, st[n], by rw [List.getElem?_eq_getElem hn, e], List.getElem?_eq_getElem hl⟩
theorem noLent_at {n : Nat} {o : O} (h : noLent st = true) (e : st[n]? = some o) : isLent o = false := by
  have := List.all_eq_true.mp h o (List.mem_of_getElem? e)
  simpa using this
theorem RepO.plain {o : O} {a : Addr} (h : RepO T m F o a H) : ∃ u, H a = some u ∧ Plain u := by
  cases o with
  | lst ds => obtain ⟨vs, h1, _⟩ := h; exact ⟨_, h1, .inl ⟨_, rfl⟩⟩
  | ins c fs => obtain ⟨dx, vs, h1, _⟩ := h; exact ⟨_, h1, .inr ⟨_, _, _, rfl⟩⟩
  | lent ds => obtain ⟨vs, h1, _⟩ := h; exact ⟨_, h1, .inl ⟨_, rfl⟩⟩
theorem Sim.hide (S : Sim T G m st F H) (hl : noLent st = true) : Sim T (G.hide m H) [] [] F H := by
  have inn : ∀ b, b ∈ m → F b = none ∧ G.l b = none ∧ ∃ u, H b = some u ∧ Plain u := fun b hb => by
    obtain ⟨n, o, e1, e2⟩ := S.at_ hb
    have z := S.cells n o b e2 e1
    exact ⟨z.fr, S.glr n b o e1 e2 (noLent_at hl e2), z.plain⟩
  refine ⟨fun b o e => ?_, S.frl, fun n a e => (by simp at e), fun n a o e => (by simp at e), fun b o e => ?_, fun b o e => ?_, S.sub, rfl, fun n o a e => (by simp at e), fun i j a e => (by simp at e), fun n a e => (by simp at e), fun b o e => ?_, S.lls, fun n a xs e => (by simp at e), S.fnt, S.tab⟩
  · by_cases hb : b ∈ m
    · rw [hide_in hb] at e; exact e
    · rw [hide_out hb] at e; exact S.frm b o e
  · by_cases hb : b ∈ m
    · exact (inn b hb).1
    · rw [hide_out hb] at e; exact S.gF b o e
  · by_cases hb : b ∈ m
    · exact (inn b hb).2.1
    · rw [hide_out hb] at e; exact S.gl b o e
  · by_cases hb : b ∈ m
    · rw [hide_in hb] at e
      obtain ⟨u, h1, h2⟩ := (inn b hb).2.2
      rw [h1] at e
      cases e
      exact h2
    · rw [hide_out hb] at e; exact S.gnt b o e
theorem Sim.unhide (S : Sim T G m st F H) (hl : noLent st = true) (l : Le [] F m' F') (S' : Sim T (G.hide m H) m' [] F' H') : Sim T G m st F' H' ∧ Le m F m F' ∧ m' = [] := by
  have hm : m' = [] := by
    have := S'.len
    cases m' with
    | nil => rfl
    | cons _ _ => simp at this
  subst hm
  have LL : Le m F m F' := ⟨fun _ _ h => h, l.F⟩
  have mem : ∀ n a, m[n]? = some a → a ∈ m := fun n a e => List.mem_of_getElem? e
  have kept : ∀ a, a ∈ m → ∀ u, H a = some u → H' a = some u := fun a ha u e => S'.frm a u (by rw [hide_in ha]; exact e)
  have fr : ∀ a, a ∈ m → F' a = none := fun a ha => by
    obtain ⟨n, o, e1, e2⟩ := S.at_ ha
    obtain ⟨u, h1, _⟩ := (S.cells n o a e2 e1).plain
    exact S'.gF a u (by rw [hide_in ha]; exact h1)
  have out : ∀ b o, G.g b = some o → b ∉ m := fun b o e hb => by
    obtain ⟨n, u, e1, e2⟩ := S.at_ hb
    rw [S.gfr n b e1] at e
    cases e
  refine ⟨⟨fun b o e => S'.frm b o (by rw [hide_out (out b o e)]; exact e), S'.frl, S.gfr, S.glr, fun b o e => S'.gF b o (by rw [hide_out (out b o e)]; exact e), S.gl, S'.sub, S.len, fun n o a e1 e2 => ?_, S.inj, fun n a e => ?_, S.gnt, S.lls, fun n a xs e1 e2 => ?_, S'.fnt, S'.tab⟩, LL, rfl⟩
  · exact (S.cells n o a e1 e2).le LL (fr a (mem n a e2)) fun u q => kept a (mem n a e2) u q
  · obtain ⟨u, h⟩ := S.there n a e
    exact ⟨u, kept a (mem n a e) u h⟩
  · obtain ⟨vs, h1, h2⟩ := S.lnt n a xs e1 e2
    exact ⟨vs, h1, Reps.le LL h2⟩
/-- a result of the empty state, in another one -/
def R.onto {α : Type} (r : R α) (st : List O) : R α := match r with
  | .ok a [] => .ok a st
  | .ex x [] => .ex x st
  | _ => .no
theorem Post.onto {r : R D} {Q : VK} {E : XW} (S : Sim T G m st F H) (hl : noLent st = true) (h : Post T (RV T) G m F (r.onto st) Q E) : Post T (RV T) (G.hide m H) [] F r Q E := by
  cases r with
  | no => exact h
  | ok d s =>
    cases s with
    | cons o s => exact h.elim
    | nil =>
      intro m' F' H' v l S' r1
      obtain ⟨S2, l2, e⟩ := S.unhide hl l S'
      subst e
      exact h m F' H' v l2 S2 (Rep.le ⟨fun n a z => (by simp at z), Same.refl F'⟩ r1)
  | ex x s =>
    cases s with
    | cons o s => exact h.elim
    | nil =>
      intro m' F' H' c da l S' rx
      obtain ⟨S2, l2, e⟩ := S.unhide hl l S'
      subst e
      refine h m F' H' c da l2 S2 ?_
      unfold RepX at rx ⊢
      refine ⟨rx.1, ?_⟩
      have q := rx.2
      cases hf : x.fs with
      | none => rw [hf] at q; exact q
      | some fs =>
        rw [hf] at q
        obtain ⟨a, vs, h1, h2, h3, h4⟩ := q
        exact ⟨a, vs, h1, h2, h3, Reps.le ⟨fun n a z => (by simp at z), Same.refl F'⟩ h4⟩
/-- apart, where that can be -/
def apart (call : List D → List O → R D) : List D → List O → R D := fun xs st => if (xs.all (noC 20) && noLent st) = true then (call xs []).onto st else call xs st
theorem Post.apart {call : List D → List O → R D} {xs : List D} {vs : List V} {Q : VK} {E : XW} (S : Sim T G m st F H) (r : Reps T m F xs vs) (h : Post T (RV T) G m F (apart call xs st) Q E) :
    ∃ G' m' st', Sim T G' m' st' F H ∧ Reps T m' F xs vs ∧ Post T (RV T) G' m' F (call xs st') Q E := by
  unfold Den.apart at h
  split at h
  · rename_i hc
    rw [Bool.and_eq_true] at hc
    exact ⟨_, [], [], S.hide hc.2, reps_noC 20 r hc.1, Post.onto S hc.2 h⟩
  · exact ⟨G, m, st, S, r, h⟩
theorem spD_apart {call : List D → List O → R D} {n : Nat} {vs : List V} {H : Hp} {Q : VK} {E : XK} (h : spD T n (apart call) vs H Q E) : spD T n call vs H Q E := by
  obtain ⟨hl, G, m, F, st, ds, S, r, p⟩ := h
  obtain ⟨G', m', st', S', r', p'⟩ := Post.apart S r p
  exact ⟨hl, G', m', F, st', ds, S', r', p'⟩
theorem FnG.apart {gb : Bool} {P : Program} {w : World} {K : PySem.W.Frag} {mg : Str → Option Value} {base : Heap} {k : Nat} {f : Addr} {fd : FuncData} {ps : List Str} {call : List D → List O → R D} (h : FnG gb P w K mg base k f fd ps (spD T ps.length call)) : FnG gb P w K mg base k f fd ps (spD T ps.length (Den.apart call)) :=
  ⟨fun vs H Q E q => h.len vs H Q E (spD_apart q), fun A outer s H args us vs Q E a b c d e q => h.run A outer s H args us vs Q E a b c d e (spD_apart q)⟩
/-- a def, called apart -/
theorem CalG.apart {P : Program} {w : World} {mg : Str → Option Value} {base : Heap} {gb : Bool} {k n : Nat} {call : List D → List O → R D} (C : CalG T P w mg base gb k n call) : CalG T P w mg base gb k n (Den.apart call) := by
  obtain ⟨fd, ps, a, b, c⟩ := C.ex
  refine ⟨⟨fd, ps, FnG.apart a, b, fun ds st h => ?_⟩, C.kp⟩
  unfold Den.apart
  split
  · rw [c ds [] h]; rfl
  · exact c ds st h
theorem LamG.apart {P : Program} {w : World} {mg : Str → Option Value} {base : Heap} {k n np : Nat} {db : DE} (L : LamG T P w mg base k n np db) :
    ∀ (f c' : Addr) (A : Around) (outer : List Env) (s : Shared) (H : Hp) (us : List Value) (vs : List V) (Q : VK) (E : XK) (G : Frm) (m : List Addr) (F : Hp) (st : List O) (ds : List D), Room k A → Env0 P w T.K mg base A outer s H → Vals vs us →
    H f = some (LamO (T.lms n) f c') → H c' = some (LamX.CodeO c' (T.lms n).q) → Sim T G m st F H → Reps T m F ds vs → Post T (RV T) G m F (Den.apart (runL np db) ds st) Q E → codeAny (model P w) A (.call (.ref f) ⟨us, []⟩) (CR (L2.CX P w) outer P w H s Q E) s :=
  fun f c' A outer s H us vs Q E G m F st ds a b c d e S r p => by
    obtain ⟨G', m', st', S', r', p'⟩ := Post.apart S r p
    exact L.run f c' A outer s H us vs Q E G' m' F st' ds a b c d e S' r' p'
end
end Den

namespace Den
open PySem PySem.Spec PyProof.Rows L2 RZ
/-! ### what a suite does, step by step, in a state st0 ++ tl: st0 of any kind, tl told -/
/-- it hands back a value as wished -/
def Runs (r : RS) (Q : D → List O → Prop) : Prop := ∃ d st, r = .rt d st ∧ Q d st
section
variable {a b s : DS} {d db da' : DE} {da : DA} {g : DG} {env env1 env2 : EV} {st st0 st1 st2 tl : List O} {v w : D} {xs ys : List D} {r r1 : RS} {Q : D → List O → Prop} {i j k : Nat} {x : Xn}
theorem step (h : a env st = .nx env1 st1) (k : Runs (b env1 st1) Q) : Runs (sSeq a b env st) Q := by unfold sSeq; rw [h]; exact k
theorem ret (h : d env st = .ok v st1) (k : Q v st1) (b : DS) : Runs (sSeq (sRet d) b env st) Q := ⟨v, st1, by unfold sSeq sRet; rw [h]; rfl, k⟩
theorem seq_nx (h : a env st = .nx env1 st1) (k : b env1 st1 = r) : sSeq a b env st = r := by unfold sSeq; rw [h]; exact k
theorem asg_nm (h : d env st = .ok v st1) : sAsg d (gNm i) env st = .nx (env.set i (some v)) st1 := by unfold sAsg; rw [h]; rfl
theorem asg_any (h : d env st = .ok v st1) (hg : g v env st1 = .ok env1 st2) : sAsg d g env st = .nx env1 st2 := by unfold sAsg; rw [h]; show (match g v env st1 with | .ok env1 st2 => _ | _ => _) = _; rw [hg]
theorem if_ev {c : DT} {q : Bool} (h : c env st = .ok q st1) (k : (if q = true then a env st1 else b env st1) = r) : sIf c a b env st = r := by unfold sIf; rw [h]; exact k
theorem if_no {c : DT} (h : c env st = .ok false st1) (k : b env st1 = r) : sIf c a b env st = r := if_ev h k
theorem for_tup {it : DJ} {f : List (List D) → List D} (hi : it env st = .ok ([], f) st1) (h : forGo g b (f []) env st1 = .nx env1 st2) : sFor it g b env st = .nx env1 st2 := by
  unfold sFor
  rw [hi]
  show (forGo g b (f []) env st1).back [] = _
  rw [h]
  rfl
theorem go_cons (hg : g v env st = .ok env1 st) (hb : b env1 st = .nx env2 st1) (h : forGo g b xs env2 st1 = r) : forGo g b (v :: xs) env st = r := by
  show (match g v env st with
    | .ok env1 st1 => match b env1 st1 with
      | .nx env2 st2 => forGo g b xs env2 st2
      | .ct env2 st2 => forGo g b xs env2 st2
      | .bk env2 st2 => .nx env2 st2
      | q => q
    | _ => .no) = r
  rw [hg]
  simp only
  rw [hb]
  exact h
/-! cells of tl -/
theorem tl_get : (st0 ++ tl)[st0.length + j]? = tl[j]? := by rw [List.getElem?_append_right (Nat.le_add_right _ _), Nat.add_sub_cancel_left]
theorem tl_set {o : O} : (st0 ++ tl).set (st0.length + j) o = st0 ++ tl.set j o := by
  rw [List.set_append_right _ _ (Nat.le_add_right _ _), Nat.add_sub_cancel_left]
theorem st_len : (st0 ++ tl).length = st0.length + tl.length := List.length_append
theorem asg_cel (h : da env (st0 ++ tl) = .ok xs (st0 ++ tl)) (hl : xs.length ≤ sizeLine) (hj : tl.length = j) : sAsg (dCel da) (gNm i) env (st0 ++ tl) = .nx (env.set i (some (.cel (st0.length + j)))) (st0 ++ (tl ++ [.lst xs])) := by
  refine asg_nm ?_
  unfold dCel
  rw [h]
  show (if xs.length ≤ sizeLine then R.ok (D.cel (st0 ++ tl).length) ((st0 ++ tl) ++ [O.lst xs]) else R.no) = _
  rw [if_pos hl, st_len, hj, List.append_assoc]
theorem par_cel {da2 : DA} {i2 : Nat} (h : da env (st0 ++ tl) = .ok xs (st0 ++ tl)) (hl : xs.length ≤ sizeLine) (hj : tl.length = j) (h2 : da2 env (st0 ++ (tl ++ [.lst xs])) = .ok ys (st0 ++ (tl ++ [.lst xs]))) (hl2 : ys.length ≤ sizeLine) :
    sPar i i2 (dCons (dCel da) (dCons (dCel da2) dNil)) env (st0 ++ tl) = .nx ((env.set i (some (.cel (st0.length + j)))).set i2 (some (.cel (st0.length + (j + 1))))) (st0 ++ ((tl ++ [.lst xs]) ++ [.lst ys])) := by
  have e1 : dCel da env (st0 ++ tl) = .ok (.cel (st0.length + j)) (st0 ++ (tl ++ [.lst xs])) := by
    unfold dCel
    rw [h]
    show (if xs.length ≤ sizeLine then R.ok (D.cel (st0 ++ tl).length) ((st0 ++ tl) ++ [O.lst xs]) else R.no) = _
    rw [if_pos hl, st_len, hj, List.append_assoc]
  have e2 : dCel da2 env (st0 ++ (tl ++ [.lst xs])) = .ok (.cel (st0.length + (j + 1))) (st0 ++ ((tl ++ [.lst xs]) ++ [.lst ys])) := by
    unfold dCel
    rw [h2]
    show (if ys.length ≤ sizeLine then R.ok (D.cel (st0 ++ (tl ++ [O.lst xs])).length) ((st0 ++ (tl ++ [O.lst xs])) ++ [O.lst ys]) else R.no) = _
    rw [if_pos hl2, st_len, List.length_append, hj, List.append_assoc]
    rfl
  unfold sPar dCons
  rw [e1]
  show ((dCons (dCel da2) dNil env (st0 ++ (tl ++ [.lst xs]))).bind fun ys' st2 => R.ok (D.cel (st0.length + j) :: ys') st2).thenS env _ = _
  unfold dCons
  rw [e2]
  rfl
/-- xs.append(y) -/
theorem app_ev (he : env[i]? = some (some (.cel (st0.length + j)))) (ht : tl[j]? = some (.lst xs)) (hd : db env (st0 ++ tl) = .ok v (st0 ++ tl)) (hl : xs.length < sizeLine) :
    sExpr (dMeth isL mApp (dVar i) (dCons db dNil)) env (st0 ++ tl) = .nx env (st0 ++ tl.set j (.lst (xs ++ [v]))) := by
  have e1 : dVar i env (st0 ++ tl) = .ok (.cel (st0.length + j)) (st0 ++ tl) := by unfold dVar; rw [he]
  have e2 : isL (.cel (st0.length + j)) (st0 ++ tl) = true := by unfold isL lstOf; simp only; rw [tl_get, ht]; rfl
  have e3 : dCons db dNil env (st0 ++ tl) = .ok [v] (st0 ++ tl) := by unfold dCons; rw [hd]; rfl
  have e4 : mApp (.cel (st0.length + j)) [v] (st0 ++ tl) = .ok .non (st0 ++ tl.set j (.lst (xs ++ [v]))) := by unfold mApp; simp only; rw [tl_get, ht]; simp only; rw [if_pos hl, tl_set]
  unfold sExpr dMeth
  rw [e1]
  show ((if isL (.cel (st0.length + j)) (st0 ++ tl) = true then (dCons db dNil env (st0 ++ tl)).bind fun ys st2 => (mApp (.cel (st0.length + j)) ys st2).calm else .no).thenS env fun _ st1 => .nx env st1) = _
  rw [if_pos e2, e3]
  show ((mApp (.cel (st0.length + j)) [v] (st0 ++ tl)).calm.thenS env fun _ st1 => .nx env st1) = _
  rw [e4]
  rfl
/-- x = x + [..], x a list that changes -/
theorem addC_ev (he : env[i]? = some (some (.cel (st0.length + j)))) (ht : tl[j]? = some (.lst xs)) (hd : db env (st0 ++ tl) = .ok (.lst ys) (st0 ++ tl)) (hl : xs.length + ys.length ≤ sizeLine) (hk : tl.length = k) :
    sAsg (dOp oAddC (dVar i) db) (gNm i) env (st0 ++ tl) = .nx (env.set i (some (.cel (st0.length + k)))) (st0 ++ (tl ++ [.lst (xs ++ ys)])) := by
  refine asg_nm ?_
  have e1 : dVar i env (st0 ++ tl) = .ok (.cel (st0.length + j)) (st0 ++ tl) := by unfold dVar; rw [he]
  have e4 : oAddC (.cel (st0.length + j)) (.lst ys) (st0 ++ tl) = .ok (.cel (st0.length + k)) (st0 ++ (tl ++ [.lst (xs ++ ys)])) := by
    unfold oAddC lstOf
    simp only
    rw [tl_get, ht]
    simp only
    rw [if_pos hl, st_len, hk, List.append_assoc]
  unfold dOp
  rw [e1]
  show ((db env (st0 ++ tl)).bind fun y st2 => (oAddC (.cel (st0.length + j)) y st2).calm) = _
  rw [hd]
  show (oAddC (.cel (st0.length + j)) (.lst ys) (st0 ++ tl)).calm = _
  rw [e4]
  rfl
/-- xs.append(y), the list that stands first -/
theorem app_hd {tr : List O} (he : env[i]? = some (some (.cel (st0.length + 0)))) (hd : db env (st0 ++ (.lst xs :: tr)) = .ok v (st0 ++ (.lst xs :: tr))) (hl : xs.length < sizeLine) :
    sExpr (dMeth isL mApp (dVar i) (dCons db dNil)) env (st0 ++ (.lst xs :: tr)) = .nx env (st0 ++ (.lst (xs ++ [v]) :: tr)) := app_ev (tl := .lst xs :: tr) (j := 0) he rfl hd hl
theorem eq_cel {q : Bool} (h1 : tl[i]? = some (.lst xs)) (h2 : tl[j]? = some (.lst ys)) (he : ∀ st, eqD (.lst xs) (.lst ys) st = some q) : oEq (.cel (st0.length + i)) (.cel (st0.length + j)) (st0 ++ tl) = .ok (.bl q) (st0 ++ tl) := by
  have h := he (st0 ++ tl)
  unfold eqD at h
  simp only [asPy, D.py] at h
  unfold oEq eqD
  simp only [asPy]
  rw [tl_get, tl_get, h1, h2]
  simp only
  rw [h]
theorem op_ev {f : D → D → List O → R D} {x y : D} (ha : d env st = .ok x st1) (hb : db env st1 = .ok y st2) (h : f x y st2 = .ok v st) : dOp f d db env st = .ok v st := by
  unfold dOp
  rw [ha]
  show ((db env st1).bind fun y st2 => (f x y st2).calm) = _
  rw [hb]
  show (f x y st2).calm = _
  rw [h]
  rfl
theorem or_f {c c2 : DT} {q : R Bool} (h : c env st = .ok false st1) (k : c2 env st1 = q) : dOrT c c2 env st = q := by unfold dOrT; rw [h]; exact k
theorem notT_ev {c : DT} {q : Bool} (h : c env st = .ok q st1) : dNotT c env st = .ok (!q) st1 := by unfold dNotT; rw [h]; rfl
theorem tru_ev {q : Bool} (h : d env st = .ok (.bl q) st1) : dTru d env st = .ok q st1 := by unfold dTru; rw [h]; rfl
theorem and_ev {q : R D} (h : d env st = .ok (.bl true) st1) (k : db env st1 = q) : dAnd d db env st = q := by unfold dAnd; rw [h]; exact k
theorem not_ev {q : Bool} (h : d env st = .ok (.bl q) st1) : dNot d env st = .ok (.bl (!q)) st1 := by unfold dNot; rw [h]; rfl
theorem apart_cel {call : List D → List O → R D} (hn : xs.all (noC 20) = false) : Den.apart call xs st = call xs st := by
  unfold Den.apart
  rw [if_neg (by rw [hn]; exact Bool.false_ne_true)]
/-! calls -/
theorem met_ex {isub : Nat → Nat → Option Bool} {xfs : Nat → List Str} {l : List Clause} {fine : DE} {N : Nat} (h : db env st = .ex x st1) (k : hdGo isub xfs l x (List.replicate N none) st1 = .rt v st2) : dMet isub xfs l fine N db env st = .ok v st2 := by
  unfold dMet
  rw [h]
  simp only
  rw [k]
theorem met_ok {isub : Nat → Nat → Option Bool} {xfs : Nat → List Str} {l : List Clause} {fine : DE} {N : Nat} (h : db env st = .ok w st1) (k : fine [] st1 = .ok v st2) : dMet isub xfs l fine N db env st = .ok v st2 := by
  unfold dMet
  rw [h]
  simp only
  rw [k]
  rfl
theorem fn_ev {call : List D → List O → R D} {q : R D} (ha : da env st = .ok xs st1) (h : call xs st1 = q) : dFn call da env st = q := by unfold dFn; rw [ha]; exact h
theorem fnW_ev {ok okl : Nat → Bool} {call cl : Nat → List D → List O → R D} {n : Nat} {q : R D} (he : d env st = .ok (.fn n) st1) (hk : ok n = true) (ha : da env st1 = .ok xs st2) (h : call n xs st2 = q) : dFnW ok call okl cl d da env st = q := by
  unfold dFnW
  rw [he]
  show (if ok n = true then (da env st1).bind fun xs st2 => call n xs st2 else .no) = q
  rw [if_pos hk, ha]
  exact h
theorem fnW_lam {ok okl : Nat → Bool} {call cl : Nat → List D → List O → R D} {n : Nat} {q : R D} (he : d env st = .ok (.lam n) st1) (hk : okl n = true) (ha : da env st1 = .ok xs st2) (h : cl n xs st2 = q) : dFnW ok call okl cl d da env st = q := by
  unfold dFnW
  rw [he]
  show (if okl n = true then (da env st1).bind fun xs st2 => cl n xs st2 else .no) = q
  rw [if_pos hk, ha]
  exact h
theorem apart_ex {call : List D → List O → R D} (h : call xs [] = .ex x []) (hn : xs.all (noC 20) = true) (hl : noLent st = true) : Den.apart call xs st = .ex x st := by
  unfold Den.apart
  rw [if_pos (by rw [hn, hl]; rfl), h]
  rfl
theorem apart_ok {call : List D → List O → R D} (h : call xs [] = .ok v []) (hn : xs.all (noC 20) = true) (hl : noLent st = true) : Den.apart call xs st = .ok v st := by
  unfold Den.apart
  rw [if_pos (by rw [hn, hl]; rfl), h]
  rfl
theorem noLent_app (h : noLent st0 = true) (h2 : noLent tl = true) : noLent (st0 ++ tl) = true := by
  unfold noLent at *
  rw [List.all_append, h, h2]
  rfl
/-- a lambda's body, run -/
theorem runL_ex {np : Nat} (h : db (xs.map some ++ List.replicate (np - xs.length) none) st = .ex x st) (hn : xs.length = np) : runL np db xs st = .ex x st := by
  unfold runL
  rw [if_pos hn, h]
  unfold popR
  simp
theorem runL_ok {np : Nat} (h : db (xs.map some ++ List.replicate (np - xs.length) none) st = .ok v st) (hn : xs.length = np) : runL np db xs st = .ok v st := by
  unfold runL
  rw [if_pos hn, h]
  unfold popR
  simp
/-- behind a def: the state is as long as it was | what it made is forgotten -/
theorem pop_same {n : Nat} (h : st.length = n) : popR n (.ok v st) = .ok v st := by unfold popR; simp [h]
theorem pop_tl (hf : frz 20 st0.length (st0 ++ tl) v = some w) (ho : st0.all (oldO st0.length) = true) : popR st0.length (.ok v (st0 ++ tl)) = if (st0 ++ tl).length = st0.length then .ok v (st0 ++ tl) else .ok w st0 := by
  unfold popR
  simp only
  by_cases h : (st0 ++ tl).length = st0.length
  · rw [if_pos h, if_pos h]
  · rw [if_neg h, if_neg h, hf]
    simp only
    rw [List.take_left, if_pos ho]
end
end Den

namespace Den
open PySem PySem.Spec PyProof.Rows L2 RZ
/-! ### a call that is handed one list that may change, and nothing else that may: it runs as if this were alone -/
section
variable {T : Tab} {X : Cx} {W : WX} {m m' : List Addr} {F F' H H' : Hp} {G : Frm} {st st' : List O}
open Classical in
/-- all that may change, but a, stands beside -/
noncomputable def Frm.hide1 (G : Frm) (m : List Addr) (H : Hp) (a : Addr) : Frm := { G with g := fun b => if b ∈ m ∧ b ≠ a then H b else G.g b }
theorem hide1_in {a b : Addr} (h : b ∈ m ∧ b ≠ a) : (G.hide1 m H a).g b = H b := if_pos h
theorem hide1_out {a b : Addr} (h : ¬(b ∈ m ∧ b ≠ a)) : (G.hide1 m H a).g b = G.g b := if_neg h
theorem one_get {α : Type} {a b : α} {k : Nat} (e : [a][k]? = some b) : k = 0 ∧ b = a := by
  cases k with
  | zero => simp at e; exact ⟨rfl, e.symm⟩
  | succ k => simp at e
theorem Sim.hide1 {n : Nat} {a : Addr} {zs : List D} (S : Sim T G m st F H) (hl : noLent st = true) (hm : m[n]? = some a) (hs : st[n]? = some (.lst zs)) (hz : zs.all (noC 20) = true) : Sim T (G.hide1 m H a) [a] [.lst zs] F H := by
  have inn : ∀ b, b ∈ m → F b = none ∧ G.l b = none ∧ ∃ u, H b = some u ∧ Plain u := fun b hb => by
    obtain ⟨n, o, e1, e2⟩ := S.at_ hb
    have z := S.cells n o b e2 e1
    exact ⟨z.fr, S.glr n b o e1 e2 (noLent_at hl e2), z.plain⟩
  have am : a ∈ m := List.mem_of_getElem? hm
  refine ⟨fun b o e => ?_, S.frl, fun k b e => ?_, fun k b o e e1 e2 => ?_, fun b o e => ?_, fun b o e => ?_, S.sub, rfl, fun k o b e1 e2 => ?_, fun i j b e1 e2 => ?_, fun k b e => ?_, fun b o e => ?_, S.lls, fun k b xs e1 e2 => ?_, S.fnt, S.tab⟩
  · by_cases hb : b ∈ m ∧ b ≠ a
    · rw [hide1_in hb] at e; exact e
    · rw [hide1_out hb] at e; exact S.frm b o e
  · obtain ⟨_, rfl⟩ := one_get e
    rw [hide1_out fun z => z.2 rfl]
    exact S.gfr n b hm
  · obtain ⟨_, rfl⟩ := one_get e
    exact (inn b am).2.1
  · by_cases hb : b ∈ m ∧ b ≠ a
    · exact (inn b hb.1).1
    · rw [hide1_out hb] at e; exact S.gF b o e
  · by_cases hb : b ∈ m ∧ b ≠ a
    · exact (inn b hb.1).2.1
    · rw [hide1_out hb] at e; exact S.gl b o e
  · obtain ⟨_, rfl⟩ := one_get e1
    obtain ⟨_, rfl⟩ := one_get e2
    obtain ⟨vs, h1, h2, h3⟩ := S.cells n _ b hs hm
    exact ⟨vs, h1, reps_noC 20 h2 hz, h3⟩
  · rw [(one_get e1).1, (one_get e2).1]
  · obtain ⟨_, rfl⟩ := one_get e
    exact S.there n b hm
  · by_cases hb : b ∈ m ∧ b ≠ a
    · rw [hide1_in hb] at e
      obtain ⟨u, h1, h2⟩ := (inn b hb.1).2.2
      rw [h1] at e
      cases e
      exact h2
    · rw [hide1_out hb] at e; exact S.gnt b o e
  · have := (one_get e1).2
    cases this
theorem Sim.unhide1 {n : Nat} {a : Addr} {zs zs' : List D} (S : Sim T G m st F H) (hl : noLent st = true) (hm : m[n]? = some a) (hs : st[n]? = some (.lst zs)) (l : Le [a] F m' F') (S' : Sim T (G.hide1 m H a) m' [.lst zs'] F' H') (hz : zs'.all (noC 20) = true) :
    Sim T G m (st.set n (.lst zs')) F' H' ∧ Le m F m F' ∧ m' = [a] := by
  have hm' : m' = [a] := by
    have h0 := l.m 0 a rfl
    have := S'.len
    cases m' with
    | nil => simp at h0
    | cons b r =>
      cases r with
      | nil => simp at h0; rw [h0]
      | cons _ _ => simp at this
  subst hm'
  have LL : Le m F m F' := ⟨fun _ _ h => h, l.F⟩
  have mem : ∀ n a, m[n]? = some a → a ∈ m := fun n a e => List.mem_of_getElem? e
  have kept : ∀ b, b ∈ m → b ≠ a → ∀ u, H b = some u → H' b = some u := fun b hb hn u e => S'.frm b u (by rw [hide1_in ⟨hb, hn⟩]; exact e)
  have fr : ∀ b, b ∈ m → b ≠ a → F' b = none := fun b hb hn => by
    obtain ⟨n, o, e1, e2⟩ := S.at_ hb
    obtain ⟨u, h1, _⟩ := (S.cells n o b e2 e1).plain
    exact S'.gF b u (by rw [hide1_in ⟨hb, hn⟩]; exact h1)
  have out : ∀ b o, G.g b = some o → ¬(b ∈ m ∧ b ≠ a) := fun b o e hb => by
    obtain ⟨n, u, e1, e2⟩ := S.at_ hb.1
    rw [S.gfr n b e1] at e
    cases e
  have hn : n < st.length := (List.getElem?_eq_some_iff.mp hs).1
  have np : ∀ k b, m[k]? = some b → k ≠ n → b ≠ a := fun k b e hk z => hk (S.inj k n a (by rw [← z]; exact e) hm)
  refine ⟨⟨fun b o e => S'.frm b o (by rw [hide1_out (out b o e)]; exact e), S'.frl, S.gfr, fun k b o e1 e2 e3 => ?_, fun b o e => S'.gF b o (by rw [hide1_out (out b o e)]; exact e), S.gl, S'.sub, by rw [List.length_set]; exact S.len, fun k o b e1 e2 => ?_, S.inj, fun k b e => ?_, S.gnt, S.lls, fun k b xs e1 e2 => ?_, S'.fnt, S'.tab⟩, LL, rfl⟩
  · obtain ⟨j, u, h1, h2⟩ := S.at_ (mem k b e1)
    exact S.glr j b u h1 h2 (noLent_at hl h2)
  · by_cases hk : k = n
    · subst hk
      rw [List.getElem?_set_self hn] at e1
      cases e1
      rw [hm] at e2
      cases e2
      obtain ⟨vs, h1, h2, h3⟩ := S'.cells 0 _ a rfl rfl
      exact ⟨vs, h1, reps_noC 20 h2 hz, h3⟩
    · rw [List.getElem?_set_ne (fun z => hk z.symm)] at e1
      exact (S.cells k o b e1 e2).le LL (fr b (mem k b e2) (np k b e2 hk)) fun u q => kept b (mem k b e2) (np k b e2 hk) u q
  · by_cases hb : b = a
    · subst hb; exact S'.there 0 b rfl
    · obtain ⟨u, h⟩ := S.there k b e
      exact ⟨u, kept b (mem k b e) hb u h⟩
  · by_cases hk : k = n
    · subst hk
      rw [List.getElem?_set_self hn] at e1
      cases e1
    · rw [List.getElem?_set_ne (fun z => hk z.symm)] at e1
      have := noLent_at hl e1
      cases this
/-- a result with the one list alone, in a longer state -/
def R.into (r : R D) (n : Nat) (st : List O) : R D := match r with
  | .ok v [.lst zs] => if (noC 20 v && zs.all (noC 20)) = true then .ok v (st.set n (.lst zs)) else .no
  | _ => .no
theorem Post.into {r : R D} {Q : VK} {E : XW} {n : Nat} {a : Addr} {zs : List D} (S : Sim T G m st F H) (hl : noLent st = true) (hm : m[n]? = some a) (hs : st[n]? = some (.lst zs)) (h : Post T (RV T) G m F (r.into n st) Q E) : Post T (RV T) (G.hide1 m H a) [a] F r Q E := by
  unfold R.into at h
  split at h
  · rename_i v zs'
    split at h
    · rename_i hz
      rw [Bool.and_eq_true] at hz
      intro m' F' H' w l S' r1
      obtain ⟨S2, l2, e⟩ := S.unhide1 hl hm hs l S' hz.2
      exact h m F' H' w l2 S2 (rep_noC 20 r1 hz.1)
    · exact h.elim
  · exact h.elim
/-- with its one list alone, where that can be -/
def focus (call : List D → List O → R D) : List D → List O → R D := fun xs st => match xs with
  | .cel n :: ys => match st[n]? with
    | some (.lst zs) => if (ys.all (noC 20) && noLent st && zs.all (noC 20)) = true then (call (.cel 0 :: ys) [.lst zs]).into n st else call (.cel n :: ys) st
    | _ => call (.cel n :: ys) st
  | _ => call xs st
theorem Post.focus {call : List D → List O → R D} {xs : List D} {vs : List V} {Q : VK} {E : XW} (S : Sim T G m st F H) (r : Reps T m F xs vs) (h : Post T (RV T) G m F (focus call xs st) Q E) :
    ∃ G' m' st' xs', Sim T G' m' st' F H ∧ Reps T m' F xs' vs ∧ Post T (RV T) G' m' F (call xs' st') Q E := by
  unfold Den.focus at h
  split at h
  · rename_i n ys
    split at h
    · rename_i zs hs
      split at h
      · rename_i hc
        simp only [Bool.and_eq_true] at hc
        cases r with
        | cons r1 r2 =>
          cases r1 with
          | cel hm =>
            exact ⟨_, _, _, _, S.hide1 hc.1.2 hm hs hc.2, .cons (.cel (n := 0) rfl) (reps_noC 20 r2 hc.1.1), Post.into S hc.1.2 hm hs h⟩
      · exact ⟨G, m, st, _, S, r, h⟩
    · exact ⟨G, m, st, _, S, r, h⟩
  · exact ⟨G, m, st, _, S, r, h⟩
theorem spD_focus {call : List D → List O → R D} {n : Nat} {vs : List V} {H : Hp} {Q : VK} {E : XK} (h : spD T n (focus call) vs H Q E) : spD T n call vs H Q E := by
  obtain ⟨hl, G, m, F, st, ds, S, r, p⟩ := h
  obtain ⟨G', m', st', ds', S', r', p'⟩ := Post.focus S r p
  exact ⟨hl, G', m', F, st', ds', S', r', p'⟩
theorem FnG.focus {gb : Bool} {P : Program} {w : World} {K : PySem.W.Frag} {mg : Str → Option Value} {base : Heap} {k : Nat} {f : Addr} {fd : FuncData} {ps : List Str} {call : List D → List O → R D} (h : FnG gb P w K mg base k f fd ps (spD T ps.length call)) : FnG gb P w K mg base k f fd ps (spD T ps.length (Den.focus call)) :=
  ⟨fun vs H Q E q => h.len vs H Q E (spD_focus q), fun A outer s H args us vs Q E a b c d e q => h.run A outer s H args us vs Q E a b c d e (spD_focus q)⟩
theorem CalG.focus {P : Program} {w : World} {mg : Str → Option Value} {base : Heap} {gb : Bool} {k n : Nat} {call : List D → List O → R D} (C : CalG T P w mg base gb k n call) : CalG T P w mg base gb k n (Den.focus call) := by
  obtain ⟨fd, ps, a, b, c⟩ := C.ex
  refine ⟨⟨fd, ps, FnG.focus a, b, fun ds st h => ?_⟩, C.kp⟩
  unfold Den.focus
  split
  · rename_i k ys
    split
    · rename_i zs hs
      split
      · rw [c (.cel 0 :: ys) [.lst zs] h]; rfl
      · exact c _ st h
    · exact c _ st h
  · exact c ds st h
theorem focus_ok {call : List D → List O → R D} {n : Nat} {ys zs zs' : List D} {v : D} (h : call (.cel 0 :: ys) [.lst zs] = .ok v [.lst zs']) (hs : st[n]? = some (.lst zs)) (hl : noLent st = true) (hy : ys.all (noC 20) = true) (hz : zs.all (noC 20) = true) (hv : noC 20 v = true) (hz' : zs'.all (noC 20) = true) :
    focus call (.cel n :: ys) st = .ok v (st.set n (.lst zs')) := by
  unfold focus
  simp only
  rw [hs]
  simp only
  rw [if_pos (by rw [hy, hl, hz]; rfl), h]
  unfold R.into
  simp only
  rw [if_pos (by rw [hv, hz']; rfl)]
end
end Den

namespace Den
open PySem PySem.Spec PyProof.Rows L2 RZ
/-! ### texts: signs, parts, walks, products, parts of other texts; starred displays; list(range(..)) -/
section
variable {T : Tab} {X : Cx} {W : WX} {m m' : List Addr} {F F' H H' : Hp} {G : Frm} {st st' : List O}
def oIxA : D → D → List O → R D := fun x y st => match x with
  | .str z => match y with
    | .int i => if z.length ≤ sizeLine then match atI z.cps.toList i with
      | some c => .ok (.str ⟨#[c]⟩) st
      | none => .no else .no
    | _ => .no
  | x => oIx x y st
def dIxA (a b : DE) : DE := dOp oIxA a b
theorem se_ixA {a b : Expr} {pos : Pos} {da db : DE} (hK : X.K = T.K) (ha : SE T X W a da) (hb : SE T X W b db) (hs : PlainIx b) : SE T X W (.Subscript a b pos) (dIxA da db) := by
  refine ⟨?_⟩
  intro G m F env st σ H Q at0 h pins s I
  refine (pe_ix ((ix_list.or ix_tup).or ix_str) (pe_w (X := X) (e := a)) (pe_w (X := X) (e := b)) hs).run pins s σ H Q I ?_
  refine ha _ m F env st σ H _ at0 (Post.bind h fun x st1 m1 F1 H1 v e1 l1 S1 r1 h1 => ?_)
  refine hb _ m1 F1 env st1 σ H1 _ (at0.next l1 S1) (Post.bind h1 fun y st2 m2 F2 H2 u e2 l2 S2 r2 h2 => ?_)
  have rx := Rep.le l2 r1
  have h3 : Post T (RV T) G m2 F2 (oIxA x y st2) Q (fun _ _ _ => False) := h2.calm
  unfold oIxA at h3
  split at h3
  · split at h3
    · split at h3
      · rename_i hz
        split at h3
        · rename_i c hc
          cases rx
          cases r2
          exact .inr ⟨_, _, c, rfl, rfl, hz, hc, h3 m2 F2 H2 _ Le.refl S2 (.str _)⟩
        · exact h3.elim
      · exact h3.elim
    · exact h3.elim
  · unfold oIx at h3
    split at h3
    · cases r2
      split at h3
      · rename_i xs hx
        split at h3
        · rename_i d hd
          obtain ⟨p, vs, rfl, g1, g2⟩ := seqOf_rep S2 rx hx
          obtain ⟨w, g3, g4⟩ := atI_rep g2 hd
          have q := h3 m2 F2 H2 w Le.refl S2 g4
          rcases g1 with g1 | g1
          · exact .inl (.inl ⟨p, vs, _, w, rfl, rfl, hK ▸ g1, g3, q⟩)
          · exact .inl (.inr ⟨p, vs, _, w, rfl, rfl, hK ▸ g1, g3, q⟩)
        · exact h3.elim
      · exact h3.elim
    · exact h3.elim
def dSlA (d : DE) (lo hi : DO) : DE := fun env st => (d env st).bind fun x st1 => (lo env st1).bind fun l st2 => (hi env st2).bind fun u st3 => match x with
  | .str z => if z.length ≤ sizeLine then .ok (.str (cutS z l u)) st3 else .no
  | .tup xs => .ok (.tup (cutD xs l u)) st3
  | x => match lstOf x st3 with
    | some xs => .ok (.lst (cutD xs l u)) st3
    | none => .no
theorem se_slA {e : Expr} {lo hi : Option Expr} {p2 pos : Pos} {d : DE} {dl dh : DO} (hK : X.K = T.K) (he : SE T X W e d) (hl : SO T X W lo dl) (hh : SO T X W hi dh) : SE T X W (.Subscript e (.Slice lo hi none p2) pos) (dSlA d dl dh) := by
  refine ⟨?_⟩
  intro G m F env st σ H Q at0 h pins s I
  refine (pe_slice ((sl_tupA.or sl_list).or sl_str) (pe_w (X := X) (e := e)) (po_w (X := X) (e := lo)) (po_w (X := X) (e := hi))).run pins s σ H Q I ?_
  refine he _ m F env st σ H _ at0 (Post.bind h fun x st1 m1 F1 H1 v e1 l1 S1 r1 h1 => ?_)
  refine hl _ m1 F1 env st1 σ H1 _ (at0.next l1 S1) (Post.bind h1 fun l st2 m2 F2 H2 l' e2 l2 S2 r2 h2 => ?_)
  cases r2
  refine hh _ m2 F2 env st2 σ H2 _ ((at0.next l1 S1).next l2 S2) (Post.bind h2 fun u st3 m3 F3 H3 u' e3 l3 S3 r3 h3 => ?_)
  cases r3
  have rx := Rep.le (l2.trans l3) r1
  split at h3
  · cases rx
    split at h3
    · rename_i hz
      exact .inr ⟨_, rfl, hz, h3 m3 F3 H3 _ Le.refl S3 (.str _)⟩
    · exact h3.elim
  · cases rx with
    | tup g r =>
      have el := Reps.length r
      refine .inl (.inl ⟨_, _, rfl, hK ▸ sqT_same S3.sub g, fun z => ?_, fun _ p hp => ?_⟩)
      · obtain ⟨z1, z2⟩ := z
        rw [cutD_all (by rw [el]; exact z1) (by rw [el]; exact z2)] at h3
        exact h3 m3 F3 H3 _ Le.refl S3 (.tup g r)
      · obtain ⟨S4, l4, r4⟩ := S3.newTup (cut_rep r) hp
        exact h3 m3 _ _ _ l4 S4 r4
  · split at h3
    · rename_i xs hx
      obtain ⟨a', vs, rfl, g1, g2⟩ := lstOf_rep S3 rx hx
      refine .inl (.inr ⟨a', vs, rfl, SqL.of g1, fun p hp => ?_⟩)
      obtain ⟨S4, l4, r4⟩ := S3.newLst (cut_rep g2) hp
      exact h3 m3 _ _ _ l4 S4 r4
    · exact h3.elim
/-- a text, sign by sign -/
def signsD (z : Str) : List D := z.cps.toList.map fun c => .str ⟨#[c]⟩
theorem yld_str {z : Str} : Yld T (Its z) (signsD z) m F := fun G m' F' st' H' l S => by
  refine ⟨fun i d e => ?_, by unfold signsD; rw [List.length_map]; exact Nat.le_refl _⟩
  unfold signsD at e
  rw [List.getElem?_map] at e
  cases q : z.cps.toList[i]? with
  | none => rw [q] at e; cases e
  | some c =>
    rw [q] at e
    cases e
    have q2 : z.cps[i]? = some c := by rw [← Array.getElem?_toList]; exact q
    refine ⟨(Array.getElem?_eq_some_iff.mp q2).1, fun x H2 y => ?_⟩
    obtain ⟨e2, c', e3, rfl⟩ := y
    subst e2
    rw [q2] at e3
    cases e3
    exact ⟨F', Le.refl, S, .str _⟩
def jSeqA (d : DE) : DJ := fun env st => (d env st).bind fun x st1 => match x with
  | .str z => .ok ([], fun _ => signsD z) st1
  | x => jSeq (fun _ st => .ok x st) env st1
theorem sj_seqA {tg e : Expr} {d : DE} (hK : X.K = T.K) (he : SE T X W e d) : SJ T X W tg e (jSeqA d) := by
  refine ⟨?_⟩
  intro G m F env st σ H R at0 h pins s I
  have go : ∀ x st1, d env st = .ok x st1 → Post T (RJ T) G m F (jSeq (fun _ st => .ok x st) env st1) R (fun c da H' => W c da σ H') → wI X tg e σ H R := fun x st1 q h => by
    refine (sj_seq hK he).run G m F env st σ H R at0 ?_
    unfold jSeq
    rw [q]
    exact h
  unfold jSeqA at h
  cases hq : d env st with
  | no => rw [hq] at h; exact h.elim
  | ex x st1 =>
    rw [hq] at h
    refine (sj_seq hK he).run G m F env st σ H R at0 ?_ pins s I
    unfold jSeq
    rw [hq]
    exact h
  | ok x st1 =>
    rw [hq] at h
    cases x with
    | str z =>
      refine (pi_str (tg := tg) (pe_w (X := X) (e := e))).run pins s σ H R I (he G m F env st σ H _ at0 ?_)
      rw [hq]
      intro m1 F1 H1 v l1 S1 r1
      cases r1
      exact ⟨_, rfl, h m1 F1 H1 _ l1 S1 fun G _ _ => yld_str G⟩
    | _ => exact go _ st1 hq h pins s I
/-- x in a list, a tuple, a text -/
def oInA : D → D → List O → R D := fun x y st => match y with
  | .str j => match x with
    | .str i => .ok (.bl (!(Builtin.Str.occurrences j i 0 j.length 1).isEmpty)) st
    | _ => .no
  | y => oIn x y st
theorem od_inA (hK : X.K = T.K) : OpD T X (compareOp .In) oInA := by
  intro pins s σ H x y v u Q I rx ry q
  obtain ⟨G, m, F, st, dx, dy, S, r1, r2, p⟩ := q
  unfold oInA at p
  split at p
  · split at p
    · cases r1
      cases r2
      exact op_in_str pins s σ H _ _ v u Q I rx ry ⟨_, _, rfl, rfl, p m F H _ Le.refl S (.bl _)⟩
    · exact p.elim
  · exact od_in hK pins s σ H x y v u Q I rx ry ⟨G, m, F, st, _, _, S, r1, r2, p⟩
/-- a text, some times -/
def repS (z : Str) (n : Int) : Str := if n < 1 then Str.empty else if (n == 1 || z.length == 0) = true then z else ⟨(List.replicate n.toNat z.cps).foldl (· ++ ·) #[]⟩
def oMultA : D → D → List O → R D := fun x y st => match x with
  | .str z => match y with
    | .int n => if decide (-1000000 ≤ n) && decide (n ≤ 1000000) && decide (z.length * n.toNat ≤ 1000000) && decide ((repS z n).length ≤ sizeLine) then .ok (.str (repS z n)) st else .no
    | _ => .no
  | x => oMult x y st
theorem od_multA (hK : X.K = T.K) : OpD T X (binaryOp .Mult) oMultA := by
  intro pins s σ H x y v u Q I rx ry q
  obtain ⟨G, m, F, st, dx, dy, S, r1, r2, p⟩ := q
  unfold oMultA at p
  split at p
  · rename_i z
    split at p
    · rename_i n
      cases r1
      cases r2
      split at p
      · rename_i hc
        simp only [Bool.and_eq_true, decide_eq_true_eq] at hc
        obtain ⟨⟨⟨c1, c2⟩, c3⟩, c4⟩ := hc
        obtain ⟨t, rfl⟩ := rx
        obtain ⟨t', rfl⟩ := ry
        have fin : ∀ k tk, EP X pins σ Q (.str (repS z n) tk) { s with toks := k } := fun k tk => ⟨.str (repS z n), H, I.tok k, ⟨tk, rfl⟩, p m F H _ Le.refl S (.str _)⟩
        refine P.mul_str ?_ (fun h1 h2 => ?_) (fun h1 h2 => ?_) ?_
        · rw [decide_eq_false (by omega), decide_eq_false (by omega)]; rfl
        · rw [Int.not_lt]
          refine Int.le_ediv_of_mul_le (by omega) ?_
          have e : (z.length : Int) * n = ((z.length * n.toNat : Nat) : Int) := by
            rw [Int.natCast_mul, Int.toNat_of_nonneg (by omega)]
          rw [e]
          omega
        · unfold Builtin.Str.tooLong
          refine decide_eq_false ?_
          rw [sizeLine_eq]
          omega
        · unfold repS at fin c4
          split
          · rename_i h1
            rw [if_pos h1] at c4 fin
            exact ⟨c4, fin _ _⟩
          · rename_i h1
            rw [if_neg h1] at c4 fin
            split
            · rename_i h2
              rw [if_pos h2] at c4 fin
              exact fin _ _
            · rename_i h2
              rw [if_neg h2] at c4 fin
              exact ⟨c4, fin _ _⟩
      · exact p.elim
    · exact p.elim
  · exact od_mult hK pins s σ H x y v u Q I rx ry ⟨G, m, F, st, _, _, S, r1, r2, p⟩
/-- {x} in an f-text -/
def dFmt (d : DE) : DE := fun env st => (d env st).bind fun x st1 => match x with
  | .str y => if y.length ≤ sizeLine then .ok (.str y) st1 else .no
  | .int i => if i.natAbs.log2 < 1920 then .ok (.str (toString i)) st1 else .no
  | _ => .no
theorem se_fmt {e : Expr} {pos : Pos} {d : DE} (he : SE T X W e d) : SE T X W (.FormattedValue e (-1) none pos) (dFmt d) := by
  refine ⟨?_⟩
  intro G m F env st σ H Q at0 h pins s II
  refine (pe_fmt (pe_w (X := X) (e := e))).run pins s σ H Q II ?_
  refine he _ m F env st σ H _ at0 (Post.bind h fun x st1 m1 F1 H1 v e1 l1 S1 r1 h1 => ?_)
  split at h1
  · cases r1
    split at h1
    · rename_i hl
      exact .inl ⟨_, rfl, hl, h1 m1 F1 H1 _ Le.refl S1 (.str _)⟩
    · exact h1.elim
  · cases r1
    split at h1
    · rename_i hl
      exact .inr ⟨_, rfl, hl, h1 m1 F1 H1 _ Le.refl S1 (.str _)⟩
    · exact h1.elim
  · exact h1.elim
/-- the parts of an f-text, one behind the other -/
def dJs : List DE → Str → DE
  | [], acc => fun _ st => .ok (.str acc) st
  | d :: ds, acc => fun env st => (d env st).bind fun x st1 => match x with
    | .str y => if (acc ++ y).length ≤ sizeLine then dJs ds (acc ++ y) env st1 else .no
    | _ => .no
inductive SJs (T : Tab) (X : Cx) (W : WX) : List Expr → List DE → Prop
  | nil : SJs T X W [] []
  | cons {e : Expr} {d : DE} {es : List Expr} {ds : List DE} (h : SE T X W e d) (r : SJs T X W es ds) : SJs T X W (e :: es) (d :: ds)
theorem SJs.pj : ∀ {es : List Expr} {ds : List DE}, SJs T X W es ds → PJ X es (es.map (wE X))
  | _, _, .nil => .nil
  | _, _, .cons _ r => .cons pe_w r.pj
theorem SJs.read {es : List Expr} {ds : List DE} (h : SJs T X W es ds) : ∀ (acc : Str) (G : Frm) (m : List Addr) (F : Hp) (env : EV) (st : List O) (σ : L2.St) (H : Hp) (Q : Str → Hp → Prop), At T X G m st F env σ H → Post T (RV T) G m F (dJs ds acc env st) (fun v H' => ∃ z, v = .str z ∧ Q z H') (fun c da H' => W c da σ H') → tJs (es.map (wE X)) acc σ H Q := by
  induction h with
  | nil =>
    intro acc G m F env st σ H Q at0 p
    obtain ⟨z, e, q⟩ := p m F H _ Le.refl at0.sim (.str _)
    cases e
    exact q
  | @cons e d es ds he r ih =>
    intro acc G m F env st σ H Q at0 p
    refine he _ m F env st σ H _ at0 (Post.bind p fun x st1 m1 F1 H1 v e1 l1 S1 r1 h1 => ?_)
    split at h1
    · cases r1
      split at h1
      · rename_i hl
        exact ⟨_, rfl, hl, ih _ G m1 F1 env st1 σ H1 Q (at0.next l1 S1) h1⟩
      · exact h1.elim
    · exact h1.elim
theorem se_joined {v1 v2 : Expr} {rest : List Expr} {ds : List DE} {pos : Pos} (h : SJs T X W (v1 :: v2 :: rest) ds) : SE T X W (.JoinedStr (v1 :: v2 :: rest) pos) (dJs ds Str.empty) := by
  refine ⟨?_⟩
  intro G m F env st σ H Q at0 p pins s II
  refine (pe_joined h.pj).run pins s σ H Q II (h.read Str.empty G m F env st σ H _ at0 ?_)
  cases q : dJs ds Str.empty env st with
  | no => rw [q] at p; exact p
  | ex x s => rw [q] at p; exact p
  | ok d s =>
    rw [q] at p
    intro m1 F1 H1 v l1 S1 r1
    have e : ∃ z, d = .str z := by
      have key : ∀ (ds : List DE) (acc : Str) (st : List O) (d : D) (s : List O), dJs ds acc env st = .ok d s → ∃ z, d = .str z := by
        intro ds
        induction ds with
        | nil => intro acc st d s e; cases e; exact ⟨_, rfl⟩
        | cons a r ih =>
          intro acc st d s e
          unfold dJs at e
          cases qa : a env st with
          | no => rw [qa] at e; cases e
          | ex x s' => rw [qa] at e; cases e
          | ok x s' =>
            rw [qa] at e
            cases x with
            | str y =>
              have e : (if (acc ++ y).length ≤ sizeLine then dJs r (acc ++ y) env s' else .no) = R.ok d s := e
              split at e
              · exact ih _ _ _ _ e
              · cases e
            | _ => cases e
      exact key ds _ st d s q
    obtain ⟨z, rfl⟩ := e
    cases r1
    exact ⟨z, rfl, p m1 F1 H1 _ l1 S1 (.str _)⟩
/-- all of these are texts -/
def strsD : List D → Option (List Str)
  | [] => some []
  | .str b :: r => match strsD r with
    | some bs => some (b :: bs)
    | none => none
  | _ => none
theorem strs_rep : ∀ {ds : List D} {vs : List V} {bs : List Str}, Reps T m F ds vs → strsD ds = some bs → vs = bs.map V.str
  | _, _, _, .nil, e => by simp only [strsD] at e; cases e; rfl
  | _, _, _, .cons (d := d) (ds := ds) h r, e => by
    cases h with
    | str b =>
      simp only [strsD] at e
      cases q : strsD ds with
      | none => rw [q] at e; cases e
      | some bs =>
        rw [q] at e
        cases e
        rw [strs_rep r q]
        rfl
    | _ => simp only [strsD] at e; cases e
/-- sep.join(texts) -/
def mJoin : D → List D → List O → R D := fun o ys st => match o, ys with
  | .str a, [d] => match seqOf d st with
    | some xs => match strsD xs with
      | some bs => if (bs.map (·.length)).sum + bs.length * a.length ≤ 16777216 then .ok (.str (Txt.join a bs)) st else .no
      | none => .no
    | none => .no
  | _, _ => .no
theorem md_join (hK : X.K = T.K) : MtR X "str.join" (rM T mJoin) := by
  intro pins s σ H x vs v us Q I rx rv h
  obtain ⟨G, m, F, st, o, ds, S, r1, r2, p⟩ := h
  unfold mJoin at p
  split at p
  · cases r1
    cases r2 with
    | cons r3 r4 =>
      cases r4
      split at p
      · rename_i xs hx
        split at p
        · rename_i bs hb
          split at p
          · rename_i hl
            obtain ⟨q, ws, rfl, g1, g2⟩ := seqOf_rep S r3 hx
            have e := strs_rep g2 hb
            subst e
            exact mt_join pins s σ H _ _ v us Q I rx rv ⟨_, q, bs, rfl, rfl, hK ▸ g1, hl, p m F H _ Le.refl S (.str _)⟩
          · exact p.elim
        · exact p.elim
      · exact p.elim
  · exact p.elim
/-- *x in a display or a call -/
def dStar (d : DE) (ds : DA) : DA := fun env st => (d env st).bind fun x st1 => match seqOf x st1 with
  | some xs => (ds env st1).bind fun ys st2 => .ok (xs ++ ys) st2
  | none => .no
theorem sa_star {e : Expr} {es : List Expr} {p : Pos} {d : DE} {ds : DA} (hK : X.K = T.K) (he : SE T X W e d) (hs : SA T X W es ds) (hst : starEach (.Starred e p :: es) X.env = (true, eval e X.env) :: starEach es X.env := by rfl) : SA T X W (.Starred e p :: es) (dStar d ds) := by
  refine ⟨?_⟩
  intro G m F env st σ H Q at0 h pos pins s I
  refine (StX.pa_star (pe_w (X := X) (e := e)) (pa_w (X := X) (es := es)) hst).run pos pins s σ H Q I ?_
  refine he _ m F env st σ H _ at0 (Post.bind h fun x st1 m1 F1 H1 v e1 l1 S1 r1 h1 => ?_)
  split at h1
  · rename_i xs hx
    obtain ⟨q, vs, rfl, g1, g2⟩ := seqOf_rep S1 r1 hx
    refine ⟨q, vs, rfl, hK ▸ g1.symm, ?_⟩
    refine hs _ m1 F1 env st1 σ H1 _ (at0.next l1 S1) (Post.bind h1 fun ys st2 m2 F2 H2 ws e2 l2 S2 r2 h2 => ?_)
    exact h2 m2 F2 H2 _ Le.refl S2 ((Reps.le l2 g2).append r2)
  · exact h1.elim
/-- list(range(..)), tuple(range(..)) -/
def rgOkB (a b : Int) : Bool := decide (-(2 ^ 62) ≤ a) && decide (a < 2 ^ 62) && decide (-(2 ^ 62) ≤ b) && decide (b < 2 ^ 62) && decide ((b - a).toNat ≤ 2 ^ 24)
theorem rgOkB_ok {a b : Int} (h : rgOkB a b = true) : RgOk a b := by
  unfold rgOkB at h
  simp only [Bool.and_eq_true, decide_eq_true_eq] at h
  exact ⟨h.1.1.1.1, h.1.1.1.2, h.1.1.2, h.1.2, h.2⟩
def rgD (a b : Int) : List D := (List.range (b - a).toNat).map fun i => D.int (a + (i : Nat))
theorem rg_rep {a b : Int} : Reps T m F (rgD a b) (rgV a b) := by
  unfold rgD rgV
  generalize List.range (b - a).toNat = l
  induction l with
  | nil => exact .nil
  | cons i l ih => exact .cons (.int _) ih
def dRg (k : Int → Int → List O → R D) : List DE → DE
  | [a] => fun env st => (a env st).bind fun x st1 => match x with
    | .int n => if rgOkB 0 n then k 0 n st1 else .no
    | _ => .no
  | [a, b] => fun env st => (a env st).bind fun x st1 => (b env st1).bind fun y st2 => match x, y with
    | .int i, .int j => if rgOkB i j then k i j st2 else .no
    | _, _ => .no
  | _ => fun _ _ => .no
def kRgL : Int → Int → List O → R D := fun a b st => .ok (.lst (rgD a b)) st
def kRgC : Int → Int → List O → R D := fun a b st => .ok (.cel st.length) (st ++ [.lst (rgD a b)])
def kRgT : Int → Int → List O → R D := fun a b st => .ok (.tup (rgD a b)) st
theorem rg1_read {a : Expr} {da : DE} {k : Int → Int → List O → R D} {env : EV} {σ : L2.St} {Q : VK} {K : Int → Int → Hp → Prop} (ha : SE T X W a da) (at0 : At T X G m st F env σ H) (h : Post T (RV T) G m F (dRg k [da] env st) Q (fun c da H' => W c da σ H'))
    (hk : ∀ m1 F1 H1 st1 i j, Le m F m1 F1 → Sim T G m1 st1 F1 H1 → RgOk i j → Post T (RV T) G m1 F1 (k i j st1) Q (fun c da H' => W c da σ H') → K i j H1) : tRg1 (wE X a) σ H K := by
  refine ha _ m F env st σ H _ at0 (Post.bind h fun x st1 m1 F1 H1 v e1 l1 S1 r1 h1 => ?_)
  split at h1
  · cases r1
    split at h1
    · rename_i hr
      exact ⟨_, rfl, hk m1 F1 H1 st1 _ _ l1 S1 (rgOkB_ok hr) h1⟩
    · exact h1.elim
  · exact h1.elim
theorem rg2_read {a b : Expr} {da db : DE} {k : Int → Int → List O → R D} {env : EV} {σ : L2.St} {Q : VK} {K : Int → Int → Hp → Prop} (ha : SE T X W a da) (hb : SE T X W b db) (at0 : At T X G m st F env σ H) (h : Post T (RV T) G m F (dRg k [da, db] env st) Q (fun c da H' => W c da σ H'))
    (hk : ∀ m1 F1 H1 st1 i j, Le m F m1 F1 → Sim T G m1 st1 F1 H1 → RgOk i j → Post T (RV T) G m1 F1 (k i j st1) Q (fun c da H' => W c da σ H') → K i j H1) : tRg2 (wE X a) (wE X b) σ H K := by
  refine ha _ m F env st σ H _ at0 (Post.bind h fun x st1 m1 F1 H1 v e1 l1 S1 r1 h1 => ?_)
  refine hb _ m1 F1 env st1 σ H1 _ (at0.next l1 S1) (Post.bind h1 fun y st2 m2 F2 H2 u e2 l2 S2 r2 h2 => ?_)
  split at h2
  · cases r1
    cases r2
    split at h2
    · rename_i hr
      exact ⟨_, _, rfl, rfl, hk m2 F2 H2 st2 _ _ (l1.trans l2) S2 (rgOkB_ok hr) h2⟩
    · exact h2.elim
  · exact h2.elim
theorem rgL_k {Q : VK} {E : XW} {i j : Int} (S : Sim T G m st F H) (p : Post T (RV T) G m F (kRgL i j st) Q E) : ∀ q, H q = none → Q (.ref q) (upd H q (.lst (rgV i j))) := fun q hq => by
  obtain ⟨S2, l2, r2⟩ := S.newLst (rg_rep (a := i) (b := j)) hq
  exact p m _ _ _ l2 S2 r2
theorem rgC_k {Q : VK} {E : XW} {i j : Int} (S : Sim T G m st F H) (p : Post T (RV T) G m F (kRgC i j st) Q E) : ∀ q, H q = none → Q (.ref q) (upd H q (.lst (rgV i j))) := fun q hq => by
  obtain ⟨S2, l2, r2⟩ := S.newCel (rg_rep (a := i) (b := j)) hq
  exact p _ _ _ _ l2 S2 r2
theorem rgT_k {Q : VK} {E : XW} {i j : Int} (S : Sim T G m st F H) (p : Post T (RV T) G m F (kRgT i j st) Q E) : ∀ q, H q = none → Q (.ref q) (upd H q (.tup (rgV i j))) := fun q hq => by
  obtain ⟨S2, l2, r2⟩ := S.newTup (rg_rep (a := i) (b := j)) hq
  exact p m _ _ _ l2 S2 r2
section
variable {a b : Expr} {da db : DE} {p p2 pos pos2 : Pos}
theorem se_listRg1 (hc : X.calm = true) (hg : Gl X "list") (hm : X.mg "list" = none) (hg2 : Gl X "range") (hm2 : X.mg "range" = none) (ha : SE T X W a da) (h1 : starEach [a] X.env = (false, eval a X.env) :: starEach [] X.env := by rfl) (h2 : starEach [.Call (.Name "range" p2) [a] [] pos2] X.env = (false, eval (.Call (.Name "range" p2) [a] [] pos2) X.env) :: starEach [] X.env := by rfl) :
    SE T X W (.Call (.Name "list" p) [.Call (.Name "range" p2) [a] [] pos2] [] pos) (dRg kRgL [da]) :=
  ⟨fun G m F env st σ H Q at0 h pins s I => (pe_listRg hc hg hm (prg_1 hg2 hm2 (pe_w (X := X) (e := a)) h1) h2).run pins s σ H Q I (rg1_read ha at0 h fun m1 F1 H1 st1 i j l S r q => ⟨r, rgL_k S q⟩)⟩
theorem se_listRg1C (hc : X.calm = true) (hg : Gl X "list") (hm : X.mg "list" = none) (hg2 : Gl X "range") (hm2 : X.mg "range" = none) (ha : SE T X W a da) (h1 : starEach [a] X.env = (false, eval a X.env) :: starEach [] X.env := by rfl) (h2 : starEach [.Call (.Name "range" p2) [a] [] pos2] X.env = (false, eval (.Call (.Name "range" p2) [a] [] pos2) X.env) :: starEach [] X.env := by rfl) :
    SE T X W (.Call (.Name "list" p) [.Call (.Name "range" p2) [a] [] pos2] [] pos) (dRg kRgC [da]) :=
  ⟨fun G m F env st σ H Q at0 h pins s I => (pe_listRg hc hg hm (prg_1 hg2 hm2 (pe_w (X := X) (e := a)) h1) h2).run pins s σ H Q I (rg1_read ha at0 h fun m1 F1 H1 st1 i j l S r q => ⟨r, rgC_k S q⟩)⟩
theorem se_tupRg1 (hc : X.calm = true) (hg : Gl X "tuple") (hm : X.mg "tuple" = none) (hg2 : Gl X "range") (hm2 : X.mg "range" = none) (ha : SE T X W a da) (h1 : starEach [a] X.env = (false, eval a X.env) :: starEach [] X.env := by rfl) (h2 : starEach [.Call (.Name "range" p2) [a] [] pos2] X.env = (false, eval (.Call (.Name "range" p2) [a] [] pos2) X.env) :: starEach [] X.env := by rfl) :
    SE T X W (.Call (.Name "tuple" p) [.Call (.Name "range" p2) [a] [] pos2] [] pos) (dRg kRgT [da]) :=
  ⟨fun G m F env st σ H Q at0 h pins s I => (pe_tupRg hc hg hm (prg_1 hg2 hm2 (pe_w (X := X) (e := a)) h1) h2).run pins s σ H Q I (rg1_read ha at0 h fun m1 F1 H1 st1 i j l S r q => ⟨r, rgT_k S q⟩)⟩
theorem se_tupRg2 (hc : X.calm = true) (hg : Gl X "tuple") (hm : X.mg "tuple" = none) (hg2 : Gl X "range") (hm2 : X.mg "range" = none) (ha : SE T X W a da) (hb : SE T X W b db) (h1 : starEach [a, b] X.env = (false, eval a X.env) :: starEach [b] X.env := by rfl) (h3 : starEach [b] X.env = (false, eval b X.env) :: starEach [] X.env := by rfl) (h4 : (backTo pos2 (starEach [b] X.env)).any (·.1) = false := by exact hpl_of rfl) (h2 : starEach [.Call (.Name "range" p2) [a, b] [] pos2] X.env = (false, eval (.Call (.Name "range" p2) [a, b] [] pos2) X.env) :: starEach [] X.env := by rfl) :
    SE T X W (.Call (.Name "tuple" p) [.Call (.Name "range" p2) [a, b] [] pos2] [] pos) (dRg kRgT [da, db]) :=
  ⟨fun G m F env st σ H Q at0 h pins s I => (pe_tupRg hc hg hm (prg_2 hg2 hm2 (pe_w (X := X) (e := a)) (pe_w (X := X) (e := b)) h1 h3 h4) h2).run pins s σ H Q I (rg2_read ha hb at0 h fun m1 F1 H1 st1 i j l S r q => ⟨r, rgT_k S q⟩)⟩
end
end
end Den

namespace Den
open PySem PySem.Spec PyProof.Rows L2 RZ
/-! ### list comprehensions of two clauses -/
section
variable {T : Tab} {X : Cx} {W : WX} {m m' : List Addr} {F F' H H' : Hp} {G : Frm} {st st' : List O}
/-- what is walked, as a reading that does not hang on the context -/
def tDJ (T : Tab) (d : DJ) : TI := fun σ H R => ∃ G m F env st, (Sim T G m st F H ∧ EnvR T m F env σ ∧ env.length ≤ List.length σ) ∧ Post T (RJ T) G m F (d env st) R (fun _ _ _ => False)
theorem SJ.pi {tg iter : Expr} {d : DJ} (h : SJ T X W0 tg iter d) : PI X tg iter (tDJ T d) := ⟨fun pins s σ H R I ⟨G, m, F, env, st, a, p⟩ => h G m F env st σ H R ⟨a.1, a.2.1, a.2.2⟩ p pins s I⟩
/-- for each item of the first clause the items of the second one -/
def lc2Go (g : DG) (t : DT) (it1 : DJ) (g1 : DG) (t1 : DT) (d : DE) (vs1 : List Nat) (env : EV) : List D → List O → R (List D)
  | [], st => .ok [] st
  | x :: r, st => match g x env st with
    | .ok env' st1 => match (t env' st1).calm with
      | .ok b st2 => if b = true then match (it1 env' st2).calm with
          | .ok w st3 => match lendS w.1 st3 with
            | some (st4, us, xss) => match lcGo g1 t1 d (wipeD env' vs1) (w.2 xss) st4 with
              | .ok ys st5 => match lc2Go g t it1 g1 t1 d vs1 env r (unlendS us st5) with
                | .ok zs st6 => .ok (ys ++ zs) st6
                | _ => .no
              | _ => .no
            | none => .no
          | _ => .no
        else lc2Go g t it1 g1 t1 d vs1 env r st2
      | _ => .no
    | _ => .no
def lc2All (vs : List Nat) (g : DG) (t : DT) (it1 : DJ) (g1 : DG) (t1 : DT) (d : DE) (vs1 : List Nat) (k : List D → List O → R D) (env : EV) : IW → List O → R D := fun w st => match lendS w.1 st with
  | some (st1, us, xss) => match lc2Go g t it1 g1 t1 d vs1 (wipeD env vs) (w.2 xss) st1 with
    | .ok ys st2 => if ys.length ≤ sizeLine then k ys (unlendS us st2) else .no
    | _ => .no
  | none => .no
def dLc2 (vs vs1 : List Nat) (it : DJ) (g : DG) (t : DT) (it1 : DJ) (g1 : DG) (t1 : DT) (d : DE) : DE := fun env st => (it env st).bind (lc2All vs g t it1 g1 t1 d vs1 kLst env)
def dLc2C (vs vs1 : List Nat) (it : DJ) (g : DG) (t : DT) (it1 : DJ) (g1 : DG) (t1 : DT) (d : DE) : DE := fun env st => (it env st).bind (lc2All vs g t it1 g1 t1 d vs1 kCel env)
/-- the inner loop: it goes on with the list at p -/
theorem lc_inner {I vs : List Nat} {g : DG} {t : DT} {d : DE} {env : EV} {σ : L2.St} {J : It} {ds : List D} {p : Addr} {Nx : Hp → Prop} {m0 : List Addr} {F0 H0 : Hp} {st0 st1 : List O} {ys acc0 : List D} {ws0 : List V}
    (hI : ∀ i ∈ I, i ∈ vs) (S0 : Sim T (G.put p (.lst ws0)) m0 st0 F0 H0) (ra0 : Reps T m0 F0 acc0 ws0) (ev : EnvR T m0 F0 env σ) (el : env.length ≤ List.length σ) (hy : ∀ ws, YldG T (G.put p (.lst ws)) J ds m0 F0) (hz : (acc0 ++ ys).length ≤ sizeLine)
    (e : lcGo g t d (wipeD env vs) ds st0 = .ok ys st1)
    (fin : ∀ m F H ws, Le m0 F0 m F → Sim T (G.put p (.lst ws)) m st1 F H → Reps T m F (acc0 ++ ys) ws → Nx H) :
    ∃ Wv : Nat → Nat → Hp → Prop, (∃ k, Wv 0 k H0) ∧ ∀ i k H, Wv i k H →
      (J.stop i H ∧ Nx H) ∨ (J.go i H ∧ ∃ N1 : Hp → Prop, (∀ H', N1 H' → ∃ k', k' < k ∧ Wv (i + 1) k' H') ∧ ∀ x H', J.yld i H x H' → tDG T I g x (wipe σ vs) H' fun σ2 H2 => wipe σ2 vs = wipe σ vs ∧ tDT T W0 t σ2 H2 fun b H3 =>
        if b = true then tD T W0 d σ2 H3 fun y H4 => ∃ acc, H4 p = some (.lst acc) ∧ acc.length < sizeLine ∧ N1 (upd H4 p (.lst (acc ++ [y]))) else N1 H3) := by
  have ev1 : EnvR T m0 F0 (wipeD env vs) (L2.wipe σ vs) := ev.wipe
  have el1 : (wipeD env vs).length ≤ List.length (L2.wipe σ vs) := by rw [wipeD_len, wipe_length]; exact el
  refine ⟨fun i k H => ∃ m F st acc ws rest, k = ds.length - i ∧ i ≤ ds.length ∧ Le m0 F0 m F ∧ Sim T (G.put p (.lst ws)) m st F H ∧ Reps T m F acc ws ∧ lcGo g t d (wipeD env vs) (ds.drop i) st = .ok rest st1 ∧ acc ++ rest = acc0 ++ ys,
    ⟨ds.length, m0, F0, st0, acc0, ws0, ys, rfl, Nat.zero_le _, Le.refl, S0, ra0, by rw [List.drop_zero]; exact e, rfl⟩, ?_⟩
  rintro i k H ⟨m, F, st, acc, ws, rest, rfl, hi, l, S, ra, hgo, hys⟩
  have Y := hy ws m F st H l S
  by_cases hlt : i < ds.length
  · have hd : ds.drop i = ds[i] :: ds.drop (i + 1) := List.drop_eq_getElem_cons hlt
    rw [hd] at hgo
    obtain ⟨go, yl⟩ := Y.1 i ds[i] (List.getElem?_eq_getElem hlt)
    unfold lcGo at hgo
    cases q1 : g ds[i] (wipeD env vs) st with
    | ex x s => rw [q1] at hgo; cases hgo
    | no => rw [q1] at hgo; cases hgo
    | ok env1 st2 =>
    rw [q1] at hgo
    simp only at hgo
    cases q2 : t env1 st2 with
    | ex x s => rw [q2] at hgo; cases hgo
    | no => rw [q2] at hgo; cases hgo
    | ok b st3 =>
    rw [q2] at hgo
    simp only [R.calm] at hgo
    refine .inr ⟨go, fun Hn => ∃ m F st acc ws rest, i + 1 ≤ ds.length ∧ Le m0 F0 m F ∧ Sim T (G.put p (.lst ws)) m st F Hn ∧ Reps T m F acc ws ∧ lcGo g t d (wipeD env vs) (ds.drop (i + 1)) st = .ok rest st1 ∧ acc ++ rest = acc0 ++ ys, fun Hn hn => ?_, fun x Hx hx => ?_⟩
    · obtain ⟨m2, F2, st2, acc2, ws2, rest2, h1, h2⟩ := hn
      exact ⟨ds.length - (i + 1), by omega, m2, F2, st2, acc2, ws2, rest2, rfl, h1, h2⟩
    · obtain ⟨F2, l2, S2, r2⟩ := yl x Hx hx
      refine ⟨_, m, F2, wipeD env vs, st, ds[i], ⟨S2, (ev1.le (l.trans l2)), el1⟩, r2, ?_⟩
      rw [q1]
      intro m3 F3 H3 σ3 l3 a3 o3
      refine ⟨wipe_off o3 hI, _, m3, F3, env1, st2, a3, ?_⟩
      rw [q2]
      intro m4 F4 H4 b2 l4 S4 eb
      have eb : b = b2 := eb
      subst eb
      have l04 := (l2.trans l3).trans l4
      cases b with
      | false =>
        rw [if_neg Bool.false_ne_true] at hgo ⊢
        exact ⟨m4, F4, st3, acc, ws, rest, hlt, l.trans l04, S4, Reps.le l04 ra, hgo, hys⟩
      | true =>
        rw [if_pos rfl] at hgo ⊢
        cases q3 : d env1 st3 with
        | ex x s => rw [q3] at hgo; cases hgo
        | no => rw [q3] at hgo; cases hgo
        | ok y st4 =>
        rw [q3] at hgo
        simp only at hgo
        cases q4 : lcGo g t d (wipeD env vs) (ds.drop (i + 1)) st4 with
        | ex x s => rw [q4] at hgo; cases hgo
        | no => rw [q4] at hgo; cases hgo
        | ok zs st5 =>
        rw [q4] at hgo
        cases hgo
        refine ⟨_, m4, F4, env1, st3, ⟨S4, a3.2.1.le l4, a3.2.2⟩, ?_⟩
        rw [q3]
        intro m5 F5 H5 yv l5 S5 r5
        have l05 := l04.trans l5
        have el5 := Reps.length ra
        have room : acc.length < sizeLine := by
          rw [← hys] at hz
          simp only [List.length_append, List.length_cons] at hz
          omega
        refine ⟨ws, S5.frm p _ upd_same, by omega, m5, F5, st4, acc ++ [y], ws ++ [yv], zs, hlt, l.trans l05, S5.besideSet, (Reps.le l05 ra).append (.cons r5 .nil), q4, ?_⟩
        rw [List.append_assoc]
        exact hys
  · have ei : i = ds.length := by omega
    subst ei
    rw [List.drop_length] at hgo
    unfold lcGo at hgo
    cases hgo
    rw [List.append_nil] at hys
    subst hys
    exact .inl ⟨Y.2, fin m F H ws l S ra⟩
theorem lc2_loop {I I1 vs vs1 : List Nat} {g g1 : DG} {t t1 : DT} {it1 : DJ} {d : DE} {env : EV} {σ : L2.St} {J : It} {ds : List D} {p : Addr} {Qd : Hp → Prop} {m0 : List Addr} {F0 H0 : Hp} {st0 st1 : List O} {ys : List D}
    (hI : ∀ i ∈ I, i ∈ vs) (hI1 : ∀ i ∈ I1, i ∈ vs1) (at0 : Sim T G m0 st0 F0 H0) (ev : EnvR T m0 F0 env σ) (el : env.length ≤ List.length σ) (hp : H0 p = none) (hy : ∀ ws, YldG T (G.put p (.lst ws)) J ds m0 F0) (hz : ys.length ≤ sizeLine)
    (e : lc2Go g t it1 g1 t1 d vs1 (wipeD env vs) ds st0 = .ok ys st1)
    (fin : ∀ m F H ws, Le m0 F0 m F → Sim T (G.put p (.lst ws)) m st1 F H → Reps T m F ys ws → Qd H) :
    ∃ Wv : Nat → Nat → Hp → Prop, (∃ k, Wv 0 k (upd H0 p (.lst []))) ∧ ∀ i k H, Wv i k H →
      (J.stop i H ∧ Qd H) ∨ (J.go i H ∧ ∃ Nx : Hp → Prop, (∀ H', Nx H' → ∃ k', k' < k ∧ Wv (i + 1) k' H') ∧ ∀ x H', J.yld i H x H' → tDG T I g x (wipe σ vs) H' fun σ2 H2 => wipe σ2 vs = wipe σ vs ∧ tDT T W0 t σ2 H2 fun b H3 =>
        if b = true then tDJ T it1 σ2 H3 fun J1 H4 => ∃ W1 : Nat → Nat → Hp → Prop, (∃ m, W1 0 m H4) ∧ ∀ j k H, W1 j k H →
          (J1.stop j H ∧ Nx H) ∨ (J1.go j H ∧ ∃ Nx1 : Hp → Prop, (∀ H', Nx1 H' → ∃ k', k' < k ∧ W1 (j + 1) k' H') ∧ ∀ x H', J1.yld j H x H' → tDG T I1 g1 x (wipe σ2 vs1) H' fun σ3 H5 => wipe σ3 vs1 = wipe σ2 vs1 ∧ tDT T W0 t1 σ3 H5 fun b H6 =>
            if b = true then tD T W0 d σ3 H6 fun y H7 => ∃ acc, H7 p = some (.lst acc) ∧ acc.length < sizeLine ∧ Nx1 (upd H7 p (.lst (acc ++ [y]))) else Nx1 H6)
        else Nx H3) := by
  have ev1 : EnvR T m0 F0 (wipeD env vs) (L2.wipe σ vs) := ev.wipe
  have el1 : (wipeD env vs).length ≤ List.length (L2.wipe σ vs) := by rw [wipeD_len, wipe_length]; exact el
  refine ⟨fun i k H => ∃ m F st acc ws rest, k = ds.length - i ∧ i ≤ ds.length ∧ Le m0 F0 m F ∧ Sim T (G.put p (.lst ws)) m st F H ∧ Reps T m F acc ws ∧ lc2Go g t it1 g1 t1 d vs1 (wipeD env vs) (ds.drop i) st = .ok rest st1 ∧ acc ++ rest = ys,
    ⟨ds.length, m0, F0, st0, [], [], ys, rfl, Nat.zero_le _, Le.refl, at0.beside hp, .nil, by rw [List.drop_zero]; exact e, rfl⟩, ?_⟩
  rintro i k H ⟨m, F, st, acc, ws, rest, rfl, hi, l, S, ra, hgo, hys⟩
  have Y := hy ws m F st H l S
  by_cases hlt : i < ds.length
  · have hd : ds.drop i = ds[i] :: ds.drop (i + 1) := List.drop_eq_getElem_cons hlt
    rw [hd] at hgo
    obtain ⟨go, yl⟩ := Y.1 i ds[i] (List.getElem?_eq_getElem hlt)
    unfold lc2Go at hgo
    cases q1 : g ds[i] (wipeD env vs) st with
    | ex x s => rw [q1] at hgo; cases hgo
    | no => rw [q1] at hgo; cases hgo
    | ok env1 st2 =>
    rw [q1] at hgo
    simp only at hgo
    cases q2 : t env1 st2 with
    | ex x s => rw [q2] at hgo; cases hgo
    | no => rw [q2] at hgo; cases hgo
    | ok b st3 =>
    rw [q2] at hgo
    simp only [R.calm] at hgo
    refine .inr ⟨go, fun Hn => ∃ m F st acc ws rest, i + 1 ≤ ds.length ∧ Le m0 F0 m F ∧ Sim T (G.put p (.lst ws)) m st F Hn ∧ Reps T m F acc ws ∧ lc2Go g t it1 g1 t1 d vs1 (wipeD env vs) (ds.drop (i + 1)) st = .ok rest st1 ∧ acc ++ rest = ys, fun Hn hn => ?_, fun x Hx hx => ?_⟩
    · obtain ⟨m2, F2, st2, acc2, ws2, rest2, h1, h2⟩ := hn
      exact ⟨ds.length - (i + 1), by omega, m2, F2, st2, acc2, ws2, rest2, rfl, h1, h2⟩
    · obtain ⟨F2, l2, S2, r2⟩ := yl x Hx hx
      refine ⟨_, m, F2, wipeD env vs, st, ds[i], ⟨S2, (ev1.le (l.trans l2)), el1⟩, r2, ?_⟩
      rw [q1]
      intro m3 F3 H3 σ3 l3 a3 o3
      refine ⟨wipe_off o3 hI, _, m3, F3, env1, st2, a3, ?_⟩
      rw [q2]
      intro m4 F4 H4 b2 l4 S4 eb
      have eb : b = b2 := eb
      subst eb
      have l04 := (l2.trans l3).trans l4
      cases b with
      | false =>
        rw [if_neg Bool.false_ne_true] at hgo ⊢
        exact ⟨m4, F4, st3, acc, ws, rest, hlt, l.trans l04, S4, Reps.le l04 ra, hgo, hys⟩
      | true =>
        rw [if_pos rfl] at hgo ⊢
        cases q3 : it1 env1 st3 with
        | ex x s => rw [q3] at hgo; cases hgo
        | no => rw [q3] at hgo; cases hgo
        | ok w st4 =>
        rw [q3] at hgo
        simp only at hgo
        cases q4 : lendS w.1 st4 with
        | none => rw [q4] at hgo; cases hgo
        | some u =>
        obtain ⟨st5, us, xss⟩ := u
        rw [q4] at hgo
        simp only at hgo
        cases q5 : lcGo g1 t1 d (wipeD env1 vs1) (w.2 xss) st5 with
        | ex x s => rw [q5] at hgo; cases hgo
        | no => rw [q5] at hgo; cases hgo
        | ok zs st6 =>
        rw [q5] at hgo
        simp only at hgo
        cases q6 : lc2Go g t it1 g1 t1 d vs1 (wipeD env vs) (ds.drop (i + 1)) (unlendS us st6) with
        | ex x s => rw [q6] at hgo; cases hgo
        | no => rw [q6] at hgo; cases hgo
        | ok more st7 =>
        rw [q6] at hgo
        cases hgo
        refine ⟨_, m4, F4, env1, st3, ⟨S4, a3.2.1.le l4, a3.2.2⟩, ?_⟩
        rw [q3]
        intro m5 F5 H5 J1 l5 S5 r5
        obtain ⟨L, S6, sl, le, back⟩ := S5.lends q4
        have l05 := l04.trans l5
        refine lc_inner (G := ⟨G.g, L⟩) (acc0 := acc) (ys := zs) (ws0 := ws) hI1 S6 (Reps.le l05 ra) (a3.2.1.le (l4.trans l5)) a3.2.2 (fun ws2 => r5 (Frm.put ⟨G.g, L⟩ p (.lst ws2)) xss le) ?_ q5 fun m7 F7 H7 ws7 l7 S7 r7 => ?_
        · rw [← hys] at hz
          simp only [List.length_append] at hz ⊢
          omega
        · exact ⟨m7, F7, unlendS us st6, acc ++ zs, ws7, more, hlt, l.trans (l05.trans l7), back _ m7 F7 H7 st6 l7 S7, r7, q6, by rw [List.append_assoc]; exact hys⟩
  · have ei : i = ds.length := by omega
    subst ei
    rw [List.drop_length] at hgo
    unfold lc2Go at hgo
    cases hgo
    rw [List.append_nil] at hys
    subst hys
    exact .inl ⟨Y.2, fin m F H ws l S ra⟩
theorem lc2_read {I I1 vs1 : List Nat} {tg iter : Expr} {own : List (Str × Nat)} {it it1 : DJ} {g g1 : DG} {t t1 : DT} {d : DE} {env : EV} {σ : L2.St} {Q : VK} {k : List D → List O → R D}
    (hi : SJ T X W tg iter it) (hI : ∀ i ∈ I, i ∈ own.map (·.2)) (hI1 : ∀ i ∈ I1, i ∈ vs1) (at0 : At T X G m st F env σ H)
    (h : Post T (RV T) G m F ((it env st).bind (lc2All (own.map (·.2)) g t it1 g1 t1 d vs1 k env)) Q (fun c da H' => W c da σ H'))
    (hk : ∀ G m F H st1 ys p ws, Sim T (G.put p (.lst ws)) m st1 F H → G.g p = none → Reps T m F ys ws → Post T (RV T) G m F (k ys st1) Q (fun c da H' => W c da σ H') → Q (.ref p) H) :
    tLc2 (wI X tg iter) (tDG T I g) (tDT T W0 t) (tDJ T it1) (tDG T I1 g1) (tDT T W0 t1) (tD T W0 d) (own.map (·.2)) vs1 σ H Q := by
  refine hi _ m F env st σ H _ at0 (Post.bind h fun w st1 m1 F1 H1 J e1 l1 S1 y1 h1 => ?_)
  intro p hp
  unfold lc2All at h1
  split at h1
  · rename_i st2 us xss q
    obtain ⟨L, S2, sl, le, back⟩ := S1.lends q
    split at h1
    · rename_i ys st3 e
      split at h1
      · rename_i hz
        refine lc2_loop hI hI1 S2 (at0.evr.le l1) at0.len hp (fun ws => y1 (Frm.put ⟨G.g, L⟩ p (.lst ws)) xss le) hz e fun m2 F2 H2 ws l2 S3 r2 => ?_
        exact hk G m2 F2 H2 (unlendS us st3) ys p ws (back _ m2 F2 H2 st3 l2 S3) (S1.frm.free hp) r2 (h1.le l2)
      · exact h1.elim
    · exact h1.elim
  · exact h1.elim
section
variable {I I1 vs1 : List Nat} {elt tg iter tg1 iter1 : Expr} {ifs ifs1 : List Expr} {scope : Scope} {own : List (Str × Nat)} {pos : Pos} {it it1 : DJ} {g g1 : DG} {t t1 : DT} {d : DE}
theorem se_lc2 (hc : X.calm = true) (hN : X.N.Nodup) (hi : SJ T X W tg iter it) (ok : BlkOk X.N X.env.scope scope own)
    (hI : ∀ i ∈ I, i ∈ own.map (·.2)) (hI1 : ∀ i ∈ I1, i ∈ vs1) (hv : ∀ i ∈ vs1, i ∈ own.map (·.2)) (hg : ∀ s H C cl fp, SG T (blkX X s H scope C cl fp) I tg g) (ht : ∀ s H C cl fp, SPt T (blkX X s H scope C cl fp) ifs t)
    (hi1 : ∀ s H C cl fp, SJ T (blkX X s H scope C cl fp) W0 tg1 iter1 it1) (hg1 : ∀ s H C cl fp, SG T (blkX X s H scope C cl fp) I1 tg1 g1) (ht1 : ∀ s H C cl fp, SPt T (blkX X s H scope C cl fp) ifs1 t1)
    (he : ∀ s H C cl fp, SE T (blkX X s H scope C cl fp) W0 elt d) (hs : ∀ x, foldedSetIterable iter X.env x = pure x := by intro _; rfl) (hs1 : ∀ env x, foldedSetIterable iter1 env x = pure x := by intro _ _; rfl) :
    SE T X W (.ListComp elt [⟨tg, iter, ifs, 0⟩, ⟨tg1, iter1, ifs1, 0⟩] scope pos) (dLc2 (own.map (·.2)) vs1 it g t it1 g1 t1 d) := by
  refine ⟨?_⟩
  intro G m F env st σ H Q at0 h pins s II
  refine (pe_lc2 hc hN (pi_w (X := X) (tg := tg) (iter := iter)) ok hv (fun s H C cl fp => (hg s H C cl fp).pg) (fun s H C cl fp => ht s H C cl fp) (fun s H C cl fp => (hi1 s H C cl fp).pi) (fun s H C cl fp => (hg1 s H C cl fp).pg) (fun s H C cl fp => ht1 s H C cl fp) (fun s H C cl fp => (he s H C cl fp).pe) hs hs1).run pins s σ H Q II ?_
  refine lc2_read (k := kLst) hi hI hI1 at0 h fun G m F H st1 ys p ws S gp r q => ?_
  obtain ⟨S2, l2, r2⟩ := S.besideLst gp r
  exact q m _ _ _ l2 S2 r2
theorem se_lc2C (hc : X.calm = true) (hN : X.N.Nodup) (hi : SJ T X W tg iter it) (ok : BlkOk X.N X.env.scope scope own)
    (hI : ∀ i ∈ I, i ∈ own.map (·.2)) (hI1 : ∀ i ∈ I1, i ∈ vs1) (hv : ∀ i ∈ vs1, i ∈ own.map (·.2)) (hg : ∀ s H C cl fp, SG T (blkX X s H scope C cl fp) I tg g) (ht : ∀ s H C cl fp, SPt T (blkX X s H scope C cl fp) ifs t)
    (hi1 : ∀ s H C cl fp, SJ T (blkX X s H scope C cl fp) W0 tg1 iter1 it1) (hg1 : ∀ s H C cl fp, SG T (blkX X s H scope C cl fp) I1 tg1 g1) (ht1 : ∀ s H C cl fp, SPt T (blkX X s H scope C cl fp) ifs1 t1)
    (he : ∀ s H C cl fp, SE T (blkX X s H scope C cl fp) W0 elt d) (hs : ∀ x, foldedSetIterable iter X.env x = pure x := by intro _; rfl) (hs1 : ∀ env x, foldedSetIterable iter1 env x = pure x := by intro _ _; rfl) :
    SE T X W (.ListComp elt [⟨tg, iter, ifs, 0⟩, ⟨tg1, iter1, ifs1, 0⟩] scope pos) (dLc2C (own.map (·.2)) vs1 it g t it1 g1 t1 d) := by
  refine ⟨?_⟩
  intro G m F env st σ H Q at0 h pins s II
  refine (pe_lc2 hc hN (pi_w (X := X) (tg := tg) (iter := iter)) ok hv (fun s H C cl fp => (hg s H C cl fp).pg) (fun s H C cl fp => ht s H C cl fp) (fun s H C cl fp => (hi1 s H C cl fp).pi) (fun s H C cl fp => (hg1 s H C cl fp).pg) (fun s H C cl fp => ht1 s H C cl fp) (fun s H C cl fp => (he s H C cl fp).pe) hs hs1).run pins s σ H Q II ?_
  refine lc2_read (k := kCel) hi hI hI1 at0 h fun G m F H st1 ys p ws S gp r q => ?_
  obtain ⟨S2, l2, r2⟩ := S.besideCel gp r
  exact q _ _ _ _ l2 S2 r2
end
end
end Den
namespace Den
open PySem PySem.Spec PyProof.Rows L2 RZ
section
variable {T : Tab} {X : Cx} {W : WX} {m m' : List Addr} {F F' H H' : Hp} {G : Frm} {st st' : List O}
variable {I I1 vs1 : List Nat} {i : Nat} {y : Str} {py : Pos} {elt tg iter tg1 iter1 : Expr} {ifs ifs1 : List Expr} {scope : Scope} {own : List (Str × Nat)} {pos spos : Pos} {it it1 : DJ} {g g1 : DG} {t t1 : DT} {d : DE}
/-- name = [.. for .. for ..] on one line -/
theorem ss_setLc2 (hc : X.calm = true) (hN : X.N.Nodup) (hy : X.N[i]? = some y) (hyl : X.env.scope.names.lookup y = some .local)
    (hsw : swapsWith (.ListComp elt [⟨tg, iter, ifs, 0⟩, ⟨tg1, iter1, ifs1, 0⟩] scope pos) (some (.Name y py)) spos.line X.env = pure true) (hi : SJ T X W tg iter it) (ok : BlkOk X.N X.env.scope scope own)
    (hI : ∀ i ∈ I, i ∈ own.map (·.2)) (hI1 : ∀ i ∈ I1, i ∈ vs1) (hv : ∀ i ∈ vs1, i ∈ own.map (·.2)) (hg : ∀ s H C cl fp, SG T (blkX X s H scope C cl fp) I tg g) (ht : ∀ s H C cl fp, SPt T (blkX X s H scope C cl fp) ifs t)
    (hi1 : ∀ s H C cl fp, SJ T (blkX X s H scope C cl fp) W0 tg1 iter1 it1) (hg1 : ∀ s H C cl fp, SG T (blkX X s H scope C cl fp) I1 tg1 g1) (ht1 : ∀ s H C cl fp, SPt T (blkX X s H scope C cl fp) ifs1 t1)
    (he : ∀ s H C cl fp, SE T (blkX X s H scope C cl fp) W0 elt d) (hs : ∀ x, foldedSetIterable iter X.env x = pure x := by intro _; rfl) (hs1 : ∀ env x, foldedSetIterable iter1 env x = pure x := by intro _ _; rfl) :
    SS T X W (.Assign [.Name y py] (.ListComp elt [⟨tg, iter, ifs, 0⟩, ⟨tg1, iter1, ifs1, 0⟩] scope pos) spos) (sAsg (dLc2 (own.map (·.2)) vs1 it g t it1 g1 t1 d) (gNm i)) := by
  refine ⟨?_⟩
  intro G m F env st σ H Dn at0 h pins s II
  refine (ps_setLc2 hc hN hy hyl hsw (pi_w (X := X) (tg := tg) (iter := iter)) ok hv (fun s H C cl fp => (hg s H C cl fp).pg) (fun s H C cl fp => ht s H C cl fp) (fun s H C cl fp => (hi1 s H C cl fp).pi) (fun s H C cl fp => (hg1 s H C cl fp).pg) (fun s H C cl fp => ht1 s H C cl fp) (fun s H C cl fp => (he s H C cl fp).pe) hs hs1).run pins s σ H Dn II ?_
  have h2 : Post T (RV T) G m F (dLc2 (own.map (·.2)) vs1 it g t it1 g1 t1 d env st) (fun v H' => gName i v σ H' Dn.nx) (fun c da H' => W c da σ H') := PostS.ahead at0 h fun x st1 m1 F1 H1 v e1 l1 S1 r1 h1 =>
    h1 m1 F1 H1 _ Le.refl ⟨S1, (at0.evr.le l1).set i at0.len r1, by simp only [List.length_set]; exact at0.len⟩
  refine lc2_read (k := kLst) hi hI hI1 at0 h2 fun G m F H st1 ys p ws S gp r q => ?_
  obtain ⟨S2, l2, r2⟩ := S.besideLst gp r
  exact q m _ _ _ l2 S2 r2
theorem ss_setLc2C (hc : X.calm = true) (hN : X.N.Nodup) (hy : X.N[i]? = some y) (hyl : X.env.scope.names.lookup y = some .local)
    (hsw : swapsWith (.ListComp elt [⟨tg, iter, ifs, 0⟩, ⟨tg1, iter1, ifs1, 0⟩] scope pos) (some (.Name y py)) spos.line X.env = pure true) (hi : SJ T X W tg iter it) (ok : BlkOk X.N X.env.scope scope own)
    (hI : ∀ i ∈ I, i ∈ own.map (·.2)) (hI1 : ∀ i ∈ I1, i ∈ vs1) (hv : ∀ i ∈ vs1, i ∈ own.map (·.2)) (hg : ∀ s H C cl fp, SG T (blkX X s H scope C cl fp) I tg g) (ht : ∀ s H C cl fp, SPt T (blkX X s H scope C cl fp) ifs t)
    (hi1 : ∀ s H C cl fp, SJ T (blkX X s H scope C cl fp) W0 tg1 iter1 it1) (hg1 : ∀ s H C cl fp, SG T (blkX X s H scope C cl fp) I1 tg1 g1) (ht1 : ∀ s H C cl fp, SPt T (blkX X s H scope C cl fp) ifs1 t1)
    (he : ∀ s H C cl fp, SE T (blkX X s H scope C cl fp) W0 elt d) (hs : ∀ x, foldedSetIterable iter X.env x = pure x := by intro _; rfl) (hs1 : ∀ env x, foldedSetIterable iter1 env x = pure x := by intro _ _; rfl) :
    SS T X W (.Assign [.Name y py] (.ListComp elt [⟨tg, iter, ifs, 0⟩, ⟨tg1, iter1, ifs1, 0⟩] scope pos) spos) (sAsg (dLc2C (own.map (·.2)) vs1 it g t it1 g1 t1 d) (gNm i)) := by
  refine ⟨?_⟩
  intro G m F env st σ H Dn at0 h pins s II
  refine (ps_setLc2 hc hN hy hyl hsw (pi_w (X := X) (tg := tg) (iter := iter)) ok hv (fun s H C cl fp => (hg s H C cl fp).pg) (fun s H C cl fp => ht s H C cl fp) (fun s H C cl fp => (hi1 s H C cl fp).pi) (fun s H C cl fp => (hg1 s H C cl fp).pg) (fun s H C cl fp => ht1 s H C cl fp) (fun s H C cl fp => (he s H C cl fp).pe) hs hs1).run pins s σ H Dn II ?_
  have h2 : Post T (RV T) G m F (dLc2C (own.map (·.2)) vs1 it g t it1 g1 t1 d env st) (fun v H' => gName i v σ H' Dn.nx) (fun c da H' => W c da σ H') := PostS.ahead at0 h fun x st1 m1 F1 H1 v e1 l1 S1 r1 h1 =>
    h1 m1 F1 H1 _ Le.refl ⟨S1, (at0.evr.le l1).set i at0.len r1, by simp only [List.length_set]; exact at0.len⟩
  refine lc2_read (k := kCel) hi hI hI1 at0 h2 fun G m F H st1 ys p ws S gp r q => ?_
  obtain ⟨S2, l2, r2⟩ := S.besideCel gp r
  exact q _ _ _ _ l2 S2 r2
end
end Den

namespace Den
open PySem PySem.Spec PyProof.Rows L2 RZ
/-! ### a module's tuple of texts or ints; its index; defs that take any number of arguments -/
/-- the name's tuple stands at a in the written part -/
structure GTup (K : PySem.W.Frag) (a : Addr) (vs : List V) : Prop where
  sq : ∀ H, SqT K H a vs
  ob : ∃ o, K.lookup a = some o ∧ o.cls = .type "tuple" ∧ o.dict = none
def gtupB (x : Str) (vs : List He.Dv) (K : PySem.W.Frag) : Bool := He.tupB K x vs && (match K.lookup (He.ga K x) with
  | some o => decide (o.cls = .type "tuple") && o.dict.isNone
  | none => false)
theorem gtup_of {x : Str} {vs : List He.Dv} {K : PySem.W.Frag} (h : gtupB x vs K = true) : GTup K (He.ga K x) (vs.map (He.Dv.v K)) := by
  unfold gtupB at h
  rw [Bool.and_eq_true] at h
  refine ⟨He.tupB_ok h.1, ?_⟩
  have h2 := h.2
  split at h2
  · rename_i o e
    rw [Bool.and_eq_true] at h2
    exact ⟨o, e, of_decide_eq_true h2.1, Option.isNone_iff_eq_none.mp h2.2⟩
  · cases h2
section
variable {T : Tab} {X : Cx} {W : WX} {m m' : List Addr} {F F' H H' : Hp} {G : Frm} {st st' : List O}
theorem se_gtup {x : Str} {a : Addr} {ds : List D} {vs : List V} {pos : Pos} (hg : Gl X x) (hm : X.mg x = some (.ref a)) (ht : GTup T.K a vs) (hr : ∀ m F, Reps T m F ds vs) (hd : (x == ("__debug__" : Str)) = false := by decide) : SE T X W (.Name x pos) (dC (.tup ds)) :=
  se_of (pe_glob (v := .ref a) hg hm rfl hd) fun _ m _ F _ _ _ h _ => h _ (.tup (ht.sq F) (hr m F))
/-- the first place of z -/
def idxS (z : Str) : List Str → Option Nat
  | [] => none
  | y :: r => if y = z then some 0 else match idxS z r with
    | some k => some (k + 1)
    | none => none
theorem idxS_ok {z : Str} : ∀ {ys : List Str} {j : Nat}, idxS z ys = some j → ys[j]? = some z ∧ ∀ i, i < j → ys[i]? ≠ some z
  | [], _, e => by simp only [idxS] at e; cases e
  | y :: r, j, e => by
    simp only [idxS] at e
    split at e
    · rename_i h
      cases e
      exact ⟨by rw [h]; rfl, fun i hi => by omega⟩
    · rename_i h
      cases q : idxS z r with
      | none => rw [q] at e; cases e
      | some k =>
        rw [q] at e
        cases e
        obtain ⟨h1, h2⟩ := idxS_ok q
        refine ⟨h1, fun i hi => ?_⟩
        cases i with
        | zero => exact fun z => h (Option.some.inj z)
        | succ i => exact h2 i (by omega)
def dGIdx (ys : List Str) (da : DA) : DE := fun env st => (da env st).bind fun xs st1 => match xs with
  | [.str z] => match idxS z ys with
    | some j => .ok (.int (j : Nat)) st1
    | none => .no
  | _ => .no
theorem se_gidx {x : Str} {a : Addr} {ys : List Str} {e : Expr} {px apos cpos : Pos} {da : DA} (hK : X.K = T.K) (hg : Gl X x) (hm : X.mg x = some (.ref a)) (ht : GTup T.K a (ys.map V.str)) (he : SA T X W [e] da) (hd : (x == ("__debug__" : Str)) = false := by decide)
    (hbase : attributeBase (.Name x px) "index" X.env (eval (.Name x px) X.env) = eval (.Name x px) X.env := by rfl)
    (hfew : ((backTo cpos (starEach [e] X.env)).all (fun x => !x.1) && (backToKw cpos (keywordEach [] X.env)).all (fun x => x.1.isSome)
      && decide (([e] : List Expr).length + ([] : List Keyword).length + (if ([] : List Keyword).isEmpty then 0 else 1) < 30)) = true := by rfl)
    (hline : (apos.endLine == cpos.line) = true := by rfl) (hs : starEach [e] X.env = (false, eval e X.env) :: starEach [] X.env := by rfl) (hplain : (backTo cpos (starEach [] X.env)).any (·.1) = false := by rfl) :
    SE T X W (.Call (.Attribute (.Name x px) "index" apos) [e] [] cpos) (dGIdx ys da) := by
  refine ⟨?_⟩
  intro G m F env st σ H Q at0 h pins s II
  refine (pe_bm PySem.F.plainAttrs_tuple PySem.F.slot_tuple_index PySem.F.type_tuple_index mt_tup_index (pe_glob (v := .ref a) hg hm rfl hd) (pa_w (X := X) (es := [e])) hbase hfew hline hs hplain).run pins s σ H Q II ?_
  refine ⟨Or.inr (.inl ⟨rfl, by rw [hK]; exact ht.ob⟩), ?_⟩
  refine he _ m F env st σ H _ at0 (Post.bind h fun xs st1 m1 F1 H1 vs e1 l1 S1 r1 h1 => ?_)
  split at h1
  · cases r1 with
    | cons r2 r3 =>
      cases r3
      cases r2
      split at h1
      · rename_i j hj
        obtain ⟨h2, h3⟩ := idxS_ok hj
        exact ⟨a, ys, _, j, rfl, rfl, by rw [hK]; exact ht.sq _, h2, h3, h1 m1 F1 H1 _ Le.refl S1 (.int _)⟩
      · exact h1.elim
  · exact h1.elim
/-- what a def of any number of arguments does -/
def spV (T : Tab) (call : List D → List O → R D) : Sp := fun vs H Q E => ∃ G m F st ds, Sim T G m st F H ∧ Reps T m F ds vs ∧ Post T (RV T) G m F (call ds st) Q E
structure CalV (T : Tab) (P : Program) (w : World) (mg : Str → Option Value) (base : Heap) (k n : Nat) (call : List D → List O → R D) : Prop where
  run : FnR P w T.K mg base (L2.CX P w) k (T.fad n) (spV T call)
  kp : PySem.W.keepIn T.K (.ref (T.fad n)) = true
theorem CalV.mono {P : Program} {w : World} {mg : Str → Option Value} {base : Heap} {j k n : Nat} {call : List D → List O → R D} (C : CalV T P w mg base j n call) (h : j ≤ k) : CalV T P w mg base k n call := ⟨C.run.mono h, C.kp⟩
theorem defV_of {x qual : Str} {s0 : Stmt} {n : Nat} {fd : FuncData} (F : FunD T.K x qual (defArgs s0) (defBody s0) (defScope s0) [] [] (T.fad n) fd) : ∃ fd, Fun T.K x qual s0 (T.fad n) fd := by
  refine ⟨fd, ?_⟩
  obtain ⟨oc, od, dV, kV, doc, pm, an, cdv, ct, osl, rfl, lk, hcd, hD, hK⟩ := F.ex
  rcases hD with ⟨_, rfl⟩ | ⟨e, _⟩
  · exact ⟨⟨oc, od, kV, doc, pm, an, cdv, ct, osl, rfl, lk, hcd⟩, F.kp⟩
  · exact absurd rfl e
/-- all arguments, as one tuple -/
def packA (call : List D → List O → R D) : List D → List O → R D := fun ds st => if ds.length ≤ sizeLine then call [.tup ds] st else .no
theorem calV_of {P : Program} {w : World} {mg : Str → Option Value} {base : Heap} {x qual : Str} {s0 : Stmt} {n : Nat} {N : List Str} {pv : Str} {k : Nat} {b : DS} (D0 : ∃ fd, Fun T.K x qual s0 (T.fad n) fd) (Sc : FnScope N [pv] (defScope s0))
    (hbind : ∀ (kV doc pm cdv ct : Value) (an : Option Addr) (us rest : List Value), us.length = ([] : List Str).length → bindArgs (PySem.W.fnOf x qual (defArgs s0) (defBody s0) (defScope s0) .none kV doc pm an cdv ct) ⟨us ++ rest, []⟩ = (newTuple rest >>= fun t => pure (([] : List Str).zip us ++ [(pv, t)])))
    (hb : ∀ (cdv : Value) (A : Around) (outer : List Env) (s : Shared) (H : Hp) (E : XK), Room k (A.deeper (envOfC qual (defScope s0) s.heap.objs.size (T.fad n) cdv)) →
      SSs T (cxOf (L2.CX P w) P w T.K mg base N qual (defScope s0) (T.fad n) cdv A outer s H E) (WF E) (defBody s0) b) : CalV T P w mg base (k + 1) n (packA (runF N.length b)) := by
  obtain ⟨fd, Fn⟩ := D0
  obtain ⟨oc, od, kV, doc, pm, an, cdv, ct, osl, rfl, lk, hcd⟩ := Fn.ex
  refine ⟨?_, Fn.kp⟩
  have F1 := StX.fn_star (CX := L2.CX P w) (ps := []) (pv := pv) (sp := spD T 1 (runF N.length b)) (k := k) (P := P) (w := w) (mg := mg) (base := base) (N := N) lk hcd Sc StX.cxUp (hbind kV doc pm cdv ct an) (fun A outer s H vs Q E hr hsp => ?_)
  · refine fun A outer s H us vs Q E hr e0 r hsp => F1 A outer s H us vs Q E hr e0 r ?_
    obtain ⟨G, m, F, st, ds, S, rd, p⟩ := hsp
    unfold packA at p
    split at p
    · rename_i hz
      refine ⟨[], vs, rfl, rfl, by rw [← rd.length]; exact hz, fun q hq => ?_⟩
      obtain ⟨S2, l2, r2⟩ := S.newTup rd hq
      exact ⟨rfl, G, m, _, st, [.tup ds], S2, .cons r2 .nil, p.le l2⟩
    · exact p.elim
  · obtain ⟨hl, G, m, F, st, ds, S, rd, p⟩ := hsp
    refine ⟨wSs _ _, pss_w, ?_⟩
    have p2 := Post.pop S (r := (match b (ds.map some ++ List.replicate (N.length - ds.length) none) st with
      | .nx _ st' => .ok .non st'
      | .rt d st' => .ok d st'
      | .ex x _ st' => .ex x st'
      | _ => .no : R D)) p
    refine hb cdv A outer s H E hr G m F _ st _ H _ ⟨S, start_env (N := N) rd, ?_⟩ ?_
    · have e := rd.length
      unfold L2.start
      simp only [List.length_append, List.length_map, List.length_replicate]
      omega
    · cases q : b (ds.map some ++ List.replicate (N.length - ds.length) none) st with
      | nx e s => rw [q] at p2; exact fun m' F' H' σ' l a => p2 m' F' H' .non l a.sim .non
      | rt d s => rw [q] at p2; exact p2
      | ex x e1 s => rw [q] at p2; exact fun m' F' H' σ' c da l a rx => p2 m' F' H' c da l a.sim rx
      | bk e s => rw [q] at p2; exact p2.elim
      | ct e s => rw [q] at p2; exact p2.elim
      | no => rw [q] at p2; exact p2.elim
theorem CalV.apart {P : Program} {w : World} {mg : Str → Option Value} {base : Heap} {k n : Nat} {call : List D → List O → R D} (C : CalV T P w mg base k n call) : CalV T P w mg base k n (Den.apart call) :=
  ⟨fun A outer s H us vs Q E hr e0 r h => C.run A outer s H us vs Q E hr e0 r (by
    obtain ⟨G, m, F, st, ds, S, rd, p⟩ := h
    obtain ⟨G', m', st', S', r', p'⟩ := Post.apart S rd p
    exact ⟨G', m', F, st', ds, S', r', p'⟩), C.kp⟩
theorem run_v {pins : List (Addr × Obj)} {σ : L2.St} {s : Shared} {Q : VK} {us : List Value} {vs : List V} {sp : Sp} {f : Addr} {k : Nat} {gb : Bool} (Fo : FnR X.prog X.w X.K X.mg X.base (L2.CX X.prog X.w) k f sp) (he : Here X W gb k)
    (I : Inv X pins σ H s) (r : Vals vs us) (h : sp vs H Q (WE W σ)) : wpAny (model X.prog X.w) X.A (call (.ref f) us) (EP X pins σ Q) X.xe s := by
  refine wpAny_call (codeAny_mono (Fo X.A X.stack s H us vs Q (WE W σ) he.room I.env0 r h) fun res s' out => ?_)
  cases res with
  | error e => exact passAt he.tk σ pins H s e s' I out
  | ok fl =>
    cases fl with
    | ret u => exact I.after out
    | _ => exact False.elim out
theorem se_fnCallV {x : Str} {n k : Nat} {e : Expr} {es : List Expr} {p pos : Pos} {call : List D → List O → R D} {da : DA} {gb : Bool} (hK : X.K = T.K) (C : CalV T X.prog X.w X.mg X.base k n call) (hh : Here X W gb k) (hg : Gl X x) (hm : X.mg x = some (.ref (T.fad n))) (ha : SA T X W (e :: es) da)
    (hdb : (x == ("__debug__" : Str)) = false := by decide) (he : starEach (e :: es) X.env = (false, eval e X.env) :: starEach es X.env := by exact star_of rfl) (hpl : (backTo pos (starEach es X.env)).any (·.1) = false := by exact hpl_of rfl) : SE T X W (.Call (.Name x p) (e :: es) [] pos) (dFn call da) := by
  refine ⟨?_⟩
  intro G m F env st σ H Q at0 h pins s II
  refine wpAny_Call_Name_kw (ld_glob II hg hm ?_ hdb)
  refine PySem.W.callWith_K (h₀ := X.base) II.ok.mod.kin (by rw [hK]; exact C.kp) (thn (ha _ m F env st σ H (fun vs H1 => ∃ m1 F1 st1 xs, Sim T G m1 st1 F1 H1 ∧ Reps T m1 F1 xs vs ∧ Post T (RV T) G m1 F1 (call xs st1) Q (fun c da H' => W c da σ H')) at0
    (Post.bind h fun xs st1 m1 F1 H1 vs e1 l1 S1 r1 h1 => ⟨m1, F1, st1, xs, S1, r1, h1⟩) pos pins s II) fun us s1 got => ?_) he hpl
  obtain ⟨vs, H1, I1, r1, m1, F1, st1, xs, S1, r2, h1⟩ := got
  have C2 : FnR X.prog X.w X.K X.mg X.base (L2.CX X.prog X.w) k (T.fad n) (spV T call) := by rw [hK]; exact C.run
  exact ⟨I1.kIn, run_v (W := W) C2 hh I1 r1 ⟨G, m1, F1, st1, xs, S1, r2, h1⟩⟩
end
end Den

namespace Den
open PySem PySem.Spec PyProof.Rows L2 RZ
/-! ### dice alone in the state; more steps -/
/-- dice: three numbers -/
abbrev d3 (a b c : Int) : O := .lst [.int a, .int b, .int c]
section
variable {a b s : DS} {d db d1 d2 : DE} {da : DA} {g : DG} {env env1 env2 : EV} {st st0 st1 st2 tl : List O} {v w : D} {xs ys : List D} {r r1 : RS} {Q : D → List O → Prop} {i j k : Nat} {x : Xn}
theorem rets (h : a env st = .rt v st1) (k : Q v st1) : Runs (sSeq a b env st) Q := ⟨v, st1, by unfold sSeq; rw [h], k⟩
theorem par_ev (h1 : d1 env st = .ok v st1) (h2 : d2 env st1 = .ok w st2) : sPar i j (dCons d1 (dCons d2 dNil)) env st = .nx ((env.set i (some v)).set j (some w)) st2 := by
  have e2 : dCons d2 dNil env st1 = .ok [w] st2 := by unfold dCons; rw [h2]; rfl
  unfold sPar dCons
  rw [h1]
  show (((dCons d2 dNil env st1).bind fun ys st2 => R.ok (v :: ys) st2)).thenS env _ = _
  rw [e2]
  rfl
theorem tup_ev {i1 i2 : Nat} (h1 : d1 env st = .ok v st1) (h2 : d2 env st1 = .ok w st2) : sAsg (dTup (dCons d1 (dCons d2 dNil))) (gTp 2 (gsCons (gNm i1) (gsCons (gNm i2) gsNil))) env st = .nx ((env.set i1 (some v)).set i2 (some w)) st2 := by
  have e2 : dCons d2 dNil env st1 = .ok [w] st2 := by unfold dCons; rw [h2]; rfl
  have e1 : dCons d1 (dCons d2 dNil) env st = .ok [v, w] st2 := by
    unfold dCons
    rw [h1]
    show ((dCons d2 dNil env st1).bind fun ys st2 => R.ok (v :: ys) st2) = _
    rw [e2]
    rfl
  have e : dTup (dCons d1 (dCons d2 dNil)) env st = .ok (.tup [v, w]) st2 := by
    unfold dTup
    rw [e1]
    rfl
  unfold sAsg
  rw [e]
  rfl
/-- a call that is handed the dice, in a longer state -/
theorem focus_d3 {call : List D → List O → R D} {n1 n2 n3 m1 m2 m3 : Int} (h : call (.cel 0 :: ys) [d3 n1 n2 n3] = .ok v [d3 m1 m2 m3]) (hs : st[k]? = some (d3 n1 n2 n3)) (hl : noLent st = true) (hy : ys.all (noC 20) = true) (hv : noC 20 v = true) :
    focus (apart call) (.cel k :: ys) st = .ok v (st.set k (d3 m1 m2 m3)) := by
  refine focus_ok (zs := [.int n1, .int n2, .int n3]) (zs' := [.int m1, .int m2, .int m3]) ?_ hs hl hy rfl hv rfl
  rw [apart_cel (by rfl)]
  exact h
end
end Den

namespace Den
open PySem PySem.Spec PyProof.Rows L2 RZ
/-! ### a, b = x: x a tuple or a list -/
section
variable {T : Tab} {X : Cx} {W : WX} {m m' : List Addr} {F F' H H' : Hp} {G : Frm} {st st' : List O}
def gTpA (n : Nat) (gs : DGs) : DG := fun d env st => match seqOf d st with
  | some ds => if ds.length = n then gs ds env st else .no
  | none => .no
theorem sg_tupA {I : List Nat} {es : List Expr} {k : Nat} {pos : Pos} {gs : DGs} {n : Nat} (hK : X.K = T.K) (hc : X.calm = true) (h : SGs T X I es gs)
    (hn : (assignEach es X.env).length = n) (hst : (assignEach es X.env).findIdx? (·.1) = none) : SG T X I (.Tuple es k pos) (gTpA n gs) := by
  obtain ⟨t, hpt, ht⟩ := h.ex
  refine ⟨?_⟩
  intro G m F env st σ H d v Q a r h pins s u II ru
  unfold gTpA at h
  split at h
  · rename_i ds hd
    split at h
    · rename_i hl
      obtain ⟨p, vs, rfl, g1, g2⟩ := seqOf_rep a.sim r hd
      have q := ht _ m F env st σ H _ _ Q a g2 h
      have el : vs.length = n := by rw [← Reps.length g2]; exact hl
      rcases g1 with g1 | g1
      · exact (pg_unl hc hpt hn hst).run pins s σ H _ u Q II ru ⟨_, _, rfl, hK ▸ g1, el, q⟩
      · exact (pg_tup hc hpt hn hst).run pins s σ H _ u Q II ru ⟨_, _, rfl, hK ▸ g1, el, q⟩
    · exact h.elim
  · exact h.elim
variable {d1 d2 : DE} {env : EV} {st1 st2 : List O} {v w : D}
theorem tup_evA {i1 i2 : Nat} (h1 : d1 env st = .ok v st1) (h2 : d2 env st1 = .ok w st2) : sAsg (dTup (dCons d1 (dCons d2 dNil))) (gTpA 2 (gsCons (gNm i1) (gsCons (gNm i2) gsNil))) env st = .nx ((env.set i1 (some v)).set i2 (some w)) st2 := by
  have e2 : dCons d2 dNil env st1 = .ok [w] st2 := by unfold dCons; rw [h2]; rfl
  have e1 : dCons d1 (dCons d2 dNil) env st = .ok [v, w] st2 := by
    unfold dCons
    rw [h1]
    show ((dCons d2 dNil env st1).bind fun ys st2 => R.ok (v :: ys) st2) = _
    rw [e2]
    rfl
  have e : dTup (dCons d1 (dCons d2 dNil)) env st = .ok (.tup [v, w]) st2 := by
    unfold dTup
    rw [e1]
    rfl
  unfold sAsg
  rw [e]
  rfl
end
end Den

namespace Den
open PySem PySem.Spec PyProof.Rows L2 RZ
/-! ### any, all of a list of ints and truth values -/
def truth1 : D → Option Bool
  | .bl b => some b
  | .int i => some (decide (i ≠ 0))
  | _ => none
def truthsD : List D → Option (List Bool)
  | [] => some []
  | d :: r => match truth1 d, truthsD r with
    | some b, some bs => some (b :: bs)
    | _, _ => none
/-- how a value and its truth hang together -/
inductive Tr1 : V → Bool → Prop
  | bl (b : Bool) : Tr1 (.bl b) b
  | int (i : Int) : Tr1 (.int i) (decide (i ≠ 0))
inductive TrL : List V → List Bool → Prop
  | nil : TrL [] []
  | cons {v : V} {b : Bool} {vs : List V} {bs : List Bool} : Tr1 v b → TrL vs bs → TrL (v :: vs) (b :: bs)
theorem TrL.len : ∀ {vs : List V} {bs : List Bool}, TrL vs bs → vs.length = bs.length
  | _, _, .nil => rfl
  | _, _, .cons _ r => congrArg (· + 1) r.len
theorem TrL.at_ : ∀ {vs : List V} {bs : List Bool} {us : List Value} {k : Nat} {u : Value}, TrL vs bs → Vals vs us → us[k]? = some u → ∃ v b, bs[k]? = some b ∧ Tr1 v b ∧ RelV v u
  | _, _, _, _, _, .nil, .nil, e => by simp at e
  | _, _, _, 0, _, .cons h _, .cons rv _, e => by
    simp at e
    subst e
    exact ⟨_, _, rfl, h, rv⟩
  | _, _, _, k + 1, _, .cons _ t, .cons _ rs, e => by
    obtain ⟨v, b, h1, h2, h3⟩ := t.at_ rs (show _ = some _ by simpa using e)
    exact ⟨v, b, by simpa using h1, h2, h3⟩
section
variable {T : Tab} {X : Cx} {W : WX} {m m' : List Addr} {F F' H H' : Hp} {G : Frm} {st st' : List O}
theorem truths_rep : ∀ {ds : List D} {vs : List V} {bs : List Bool}, Reps T m F ds vs → truthsD ds = some bs → TrL vs bs
  | _, _, _, .nil, e => by simp only [truthsD] at e; cases e; exact .nil
  | _, _, _, .cons (d := d) (ds := ds) h r, e => by
    simp only [truthsD] at e
    cases q1 : truth1 d with
    | none => rw [q1] at e; cases e
    | some b =>
      cases q2 : truthsD ds with
      | none => rw [q1, q2] at e; cases e
      | some bs =>
        rw [q1, q2] at e
        cases e
        refine .cons ?_ (truths_rep r q2)
        cases h with
        | bl c => cases q1; exact .bl _
        | int i => cases q1; exact .int _
        | _ => cases q1
theorem truth_mix {prog : Program} {w : World} {A : Around} {vs : List V} {bs : List Bool} {its : List Value} (t : TrL vs bs) (r : Vals vs its) : TruthOf prog w A (fun i v => its.toArray[i]? = some v) (fun i => bs.getD i false) := by
  intro k u s Q E hu hq
  have hu2 : its[k]? = some u := by simpa using hu
  obtain ⟨v, b, h1, h2, h3⟩ := t.at_ r hu2
  have hg : bs.getD k false = b := by rw [List.getD_eq_getElem?_getD, h1]; rfl
  have hq : Q (bs.getD k false) s := hq
  rw [hg] at hq
  cases h2 with
  | bl c =>
    cases h3
    exact wpAny_truthy_bool hq
  | int i =>
    obtain ⟨tk, rfl⟩ := h3
    have e : (i != 0) = decide (i ≠ 0) := by by_cases z : i = 0 <;> simp [z]
    rw [← e] at hq
    exact PySem.P.truthy_int hq
def anyR (K : PySem.W.Frag) : List V → Hp → VK → Prop := fun vs H Q => ∃ (a : Addr) (ws : List V) (bs : List Bool), vs = [V.ref a] ∧ SqL K H a ws ∧ TrL ws bs ∧ Q (.bl (bs.any id)) H
theorem cr_anyT (hc : X.calm = true) : CallR X (.builtin "any") (anyR X.K) := by
  intro pins s σ H vs us Q I r h
  obtain ⟨a, ws, bs, rfl, hs, ht, q⟩ := h
  obtain ⟨its, rv, pl, _⟩ := I.list hs
  rw [Vals.ref1 r]
  refine call_any_walk (iter_any pl.isList fun s2 e2 at2 hne => ?_)
  subst e2
  refine ⟨_, _, _, _, _, _, _, rfl, Walks.list (A := X.A.in1) (I.ok.hd hc) _ a hne its.toArray, at2, truth_mix ht rv, fun hp tk hk => ?_⟩
  have up : ∀ b o, s.heap.get? b = some o → b ∉ [s.heap.objs.size] := fun b o eo hm => by
    rcases List.mem_cons.mp hm with e1 | hm
    · exact absurd (e1 ▸ Heap.lt_size eo) (Nat.lt_irrefl _)
    · cases hm
  refine ⟨.bl _, H, I.kept fun b o eo => hk b o (up b o eo) (Heap.get?_push_of_some _ eo), ?_, q⟩
  have e1 : its.toArray.size = bs.length := by rw [List.size_toArray, ← rv.length, ht.len]
  show Value.bool _ = Value.bool _
  rw [e1, L2.any_range]
theorem cr_allT (hc : X.calm = true) : CallR X (.builtin "all") (fun vs H Q => ∃ (a : Addr) (ws : List V) (bs : List Bool), vs = [V.ref a] ∧ SqL X.K H a ws ∧ TrL ws bs ∧ Q (.bl (bs.all id)) H) := by
  intro pins s σ H vs us Q I r h
  obtain ⟨a, ws, bs, rfl, hs, ht, q⟩ := h
  obtain ⟨its, rv, pl, _⟩ := I.list hs
  rw [Vals.ref1 r]
  refine call_all_walk (iter_any pl.isList fun s2 e2 at2 hne => ?_)
  subst e2
  refine ⟨_, _, _, _, _, _, _, rfl, Walks.list (A := X.A.in1) (I.ok.hd hc) _ a hne its.toArray, at2, truth_mix ht rv, fun hp tk hk => ?_⟩
  have up : ∀ b o, s.heap.get? b = some o → b ∉ [s.heap.objs.size] := fun b o eo hm => by
    rcases List.mem_cons.mp hm with e1 | hm
    · exact absurd (e1 ▸ Heap.lt_size eo) (Nat.lt_irrefl _)
    · cases hm
  refine ⟨.bl _, H, I.kept fun b o eo => hk b o (up b o eo) (Heap.get?_push_of_some _ eo), ?_, q⟩
  have e1 : its.toArray.size = bs.length := by rw [List.size_toArray, ← rv.length, ht.len]
  show Value.bool _ = Value.bool _
  rw [e1, L2.all_range]
def bAnyT : List D → List O → R D := fun xs st => match xs with
  | [d] => match lstOf d st with
    | some ys => match truthsD ys with
      | some bs => .ok (.bl (bs.any id)) st
      | none => .no
    | none => .no
  | _ => .no
def bAllT : List D → List O → R D := fun xs st => match xs with
  | [d] => match lstOf d st with
    | some ys => match truthsD ys with
      | some bs => .ok (.bl (bs.all id)) st
      | none => .no
    | none => .no
  | _ => .no
theorem bd_anyT (hK : X.K = T.K) (hc : X.calm = true) : CallD T X (.builtin "any") bAnyT := by
  intro pins s σ H xs us Q I r h
  obtain ⟨G, m, F, st, ds, S, r1, p⟩ := h
  unfold bAnyT at p
  split at p
  · cases r1 with
    | cons a b =>
      cases b
      split at p
      · rename_i ys hy
        split at p
        · rename_i bs hb
          obtain ⟨q, vs, rfl, g1, g2⟩ := lstOf_rep S a hy
          exact cr_anyT hc pins s σ H _ us Q I r ⟨q, vs, bs, rfl, SqL.of g1, truths_rep g2 hb, p m F H _ Le.refl S (.bl _)⟩
        · exact p.elim
      · exact p.elim
  · exact p.elim
theorem bd_allT (hK : X.K = T.K) (hc : X.calm = true) : CallD T X (.builtin "all") bAllT := by
  intro pins s σ H xs us Q I r h
  obtain ⟨G, m, F, st, ds, S, r1, p⟩ := h
  unfold bAllT at p
  split at p
  · cases r1 with
    | cons a b =>
      cases b
      split at p
      · rename_i ys hy
        split at p
        · rename_i bs hb
          obtain ⟨q, vs, rfl, g1, g2⟩ := lstOf_rep S a hy
          exact cr_allT hc pins s σ H _ us Q I r ⟨q, vs, bs, rfl, SqL.of g1, truths_rep g2 hb, p m F H _ Le.refl S (.bl _)⟩
        · exact p.elim
      · exact p.elim
  · exact p.elim
end
end Den

namespace Law
open PySem PySem.Spec PyProof.Rows L2 RZ Den
def topS (i : Nat) : Stmt := PySem.Challenge.pw_askedapart_k35_errors_of_operators.main.body.getD i (.Pass ⟨0, 0, 0, 0⟩)
/-! the classes of exceptions -/
def isubT : List (Nat × Nat × Bool) := [(0, 0, true), (0, 1, false), (0, 2, false), (1, 0, true), (1, 1, true), (1, 2, false), (2, 0, true), (2, 1, false), (2, 2, true)]
def isub (i j : Nat) : Option Bool := (isubT.find? fun t => t.1 == i && t.2.1 == j).map fun t => t.2.2
def xfs (c : Nat) : List Str := []
def lms (n : Nat) : LamD := if n = 0 then lamAt (lamQ (envOfC "_law_right" (defScope (topS 67)) 0 0 (.ref 0))) (topS 67) 12 1 else lamAt "" (.Pass ⟨0, 0, 0, 0⟩) 0 0
/-! what the globals are -/
structure MG (T : Tab) (mg : Str → Option Value) : Prop where
  c_InvalidOperation : mg "InvalidOperation" = some (.ref (T.cad 2))
  xe_InvalidOperation : PySem.W.excIn T.K (T.cad 2) [.type "ValueError", .type "Exception", .type "BaseException", .type "object"] "ValueError.__new__" = true
  xk_InvalidOperation : PySem.W.keepIn T.K (.ref (T.cad 2)) = true
  xs_InvalidOperation : PySem.W.subIn T.K (.ref (T.cad 2)) (.type "BaseException") = some true
  xt_InvalidOperation : PySem.W.typeIn T.K (.ref (T.cad 2)) = some (.type "type")
  c_InvalidOperator : mg "InvalidOperator" = some (.ref (T.cad 1))
  xe_InvalidOperator : PySem.W.excIn T.K (T.cad 1) [.type "ValueError", .type "Exception", .type "BaseException", .type "object"] "ValueError.__new__" = true
  xk_InvalidOperator : PySem.W.keepIn T.K (.ref (T.cad 1)) = true
  xs_InvalidOperator : PySem.W.subIn T.K (.ref (T.cad 1)) (.type "BaseException") = some true
  xt_InvalidOperator : PySem.W.typeIn T.K (.ref (T.cad 1)) = some (.type "type")
  t_LETTERS_BY_BITS : ∃ a, mg "LETTERS_BY_BITS" = some (.ref a) ∧ GTup T.K a [V.str "I", V.str "X", V.str "Z", V.str "Y"]
  i_MOST_LETTERS : ∃ t, mg "MOST_LETTERS" = some (.int 12 t)
  i_MOST_OPERATORS : ∃ t, mg "MOST_OPERATORS" = some (.int 24 t)
  i_MOST_TURNS : ∃ t, mg "MOST_TURNS" = some (.int 200 t)
  f__law_dice : mg "_law_dice" = some (.ref (T.fad 50))
  f__law_met : mg "_law_met" = some (.ref (T.fad 53))
  f__law_pick : mg "_law_pick" = some (.ref (T.fad 52))
  f__law_right : mg "_law_right" = some (.ref (T.fad 54))
  f__law_roll : mg "_law_roll" = some (.ref (T.fad 51))
  b_abs : mg "abs" = none
  b_all : mg "all" = none
  b_any : mg "any" = none
  f_are_ascending : mg "are_ascending" = some (.ref (T.fad 3))
  f_are_operators : mg "are_operators" = some (.ref (T.fad 17))
  f_are_turns : mg "are_turns" = some (.ref (T.fad 48))
  f_bits_of : mg "bits_of" = some (.ref (T.fad 28))
  f_bits_together : mg "bits_together" = some (.ref (T.fad 40))
  b_bool : mg "bool" = none
  f_check_operators : mg "check_operators" = some (.ref (T.fad 18))
  f_check_row : mg "check_row" = some (.ref (T.fad 19))
  f_check_rows : mg "check_rows" = some (.ref (T.fad 20))
  f_do_commute : mg "do_commute" = some (.ref (T.fad 27))
  f_does_commute : mg "does_commute" = some (.ref (T.fad 26))
  b_enumerate : mg "enumerate" = none
  f_form_of : mg "form_of" = some (.ref (T.fad 23))
  f_form_times : mg "form_times" = some (.ref (T.fad 25))
  f_has_form : mg "has_form" = some (.ref (T.fad 4))
  f_has_size : mg "has_size" = some (.ref (T.fad 2))
  b_int : mg "int" = none
  f_is_choice : mg "is_choice" = some (.ref (T.fad 33))
  f_is_index : mg "is_index" = some (.ref (T.fad 1))
  f_is_integer : mg "is_integer" = some (.ref (T.fad 0))
  f_is_led_or_unlike : mg "is_led_or_unlike" = some (.ref (T.fad 49))
  f_is_one : mg "is_one" = some (.ref (T.fad 37))
  f_is_operator : mg "is_operator" = some (.ref (T.fad 16))
  f_is_told : mg "is_told" = some (.ref (T.fad 5))
  f_is_unlike_lot : mg "is_unlike_lot" = some (.ref (T.fad 39))
  f_is_unlike_pair : mg "is_unlike_pair" = some (.ref (T.fad 38))
  b_isinstance : mg "isinstance" = none
  f_led_by : mg "led_by" = some (.ref (T.fad 45))
  f_led_or_unlike : mg "led_or_unlike" = some (.ref (T.fad 47))
  b_len : mg "len" = none
  f_letter_bits : mg "letter_bits" = some (.ref (T.fad 21))
  f_letters_apart : mg "letters_apart" = some (.ref (T.fad 43))
  f_letters_of : mg "letters_of" = some (.ref (T.fad 22))
  b_list : mg "list" = none
  f_mask_of : mg "mask_of" = some (.ref (T.fad 6))
  b_max : mg "max" = none
  b_min : mg "min" = none
  f_ones : mg "ones" = some (.ref (T.fad 10))
  f_pairs_below : mg "pairs_below" = some (.ref (T.fad 15))
  f_pairs_of : mg "pairs_of" = some (.ref (T.fad 14))
  f_pick_where : mg "pick_where" = some (.ref (T.fad 9))
  f_places_of : mg "places_of" = some (.ref (T.fad 8))
  f_product : mg "product" = some (.ref (T.fad 32))
  f_product_of : mg "product_of" = some (.ref (T.fad 34))
  f_put_apart : mg "put_apart" = some (.ref (T.fad 12))
  f_put_down : mg "put_down" = some (.ref (T.fad 11))
  f_quarter : mg "quarter" = some (.ref (T.fad 36))
  b_range : mg "range" = none
  f_relations : mg "relations" = some (.ref (T.fad 41))
  f_row_of : mg "row_of" = some (.ref (T.fad 7))
  f_solved_masks : mg "solved_masks" = some (.ref (T.fad 13))
  f_some_unlike : mg "some_unlike" = some (.ref (T.fad 42))
  b_str : mg "str" = none
  b_sum : mg "sum" = none
  f_times : mg "times" = some (.ref (T.fad 30))
  f_times_all : mg "times_all" = some (.ref (T.fad 29))
  f_told_form : mg "told_form" = some (.ref (T.fad 24))
  b_tuple : mg "tuple" = none
  f_turned_by : mg "turned_by" = some (.ref (T.fad 35))
  f_turns_between : mg "turns_between" = some (.ref (T.fad 46))
  f_turns_to : mg "turns_to" = some (.ref (T.fad 44))
  f_with_sign : mg "with_sign" = some (.ref (T.fad 31))
  b_zip : mg "zip" = none
  lm : T.lms = lms
  sub : SubOk T T.K isub
  xf : T.xfs = xfs
  xa : T.xa = none
section
variable {T : Tab} {P : Program} {w : World} {mg : Str → Option Value} {base : Heap}
/-! _law_met -/
def l__law_met : List Clause := (1, none, (sSeq (sRet (dTup (dCons (dC (.str "refused")) (dCons (dC (.str "operator")) dNil)))) sPass)) :: (2, none, (sSeq (sRet (dTup (dCons (dC (.str "refused")) (dCons (dC (.str "operation")) dNil)))) sPass)) :: []
def fine__law_met : DE := (dTup (dCons (dC (.str "fine")) dNil))
theorem sc__law_met : FnScope ["_law_call"] ["_law_call"] (defScope (topS 66)) := ⟨rfl, rfl, rfl, by decide +kernel, rfl, by decide +kernel, by decide +kernel⟩
theorem met__law_met (M : MG T mg) (cdv : Value) (A : Around) (outer : List Env) (s : Shared) (H : Hp) : Cls T (cxOf C8.CX0 P w T.K mg base ["_law_call"] "_law_met" (defScope (topS 66)) (T.fad 53) cdv A outer s H C8.E0).nox W0 isub (tryHds (topS 66)) l__law_met := by
  have nd := sc__law_met.nd
  exact (cls_cons M.sub rfl ⟨rfl, by decide, .inl M.c_InvalidOperator⟩ M.xa (fun xa a oe cls da pn hot => (sss_cons (ss_ret (se_tup (sa_cons se_str (sa_cons se_str sa_nil))))
    sss_nil)) (cls_cons M.sub rfl ⟨rfl, by decide, .inl M.c_InvalidOperation⟩ M.xa (fun xa a oe cls da pn hot => (sss_cons (ss_ret (se_tup (sa_cons se_str (sa_cons se_str sa_nil))))
    sss_nil)) (cls_nil rfl rfl LamX.takes0)))
theorem metf__law_met (M : MG T mg) (cdv : Value) (A : Around) (outer : List Env) (s : Shared) (H : Hp) : SE T (cxOf C8.CX0 P w T.K mg base ["_law_call"] "_law_met" (defScope (topS 66)) (T.fad 53) cdv A outer s H C8.E0).nox W0 (fineOf (topS 66)) fine__law_met := (se_tup (sa_cons se_str sa_nil))

/-! is_integer -/
def n_is_integer : DS := (sSeq (sRet (dAnd (dCall bIsi (dCons (dVar 0) (dCons (dC (.ty "int")) dNil))) (dNot (dCall bIsi (dCons (dVar 0) (dCons (dC (.ty "bool")) dNil)))))) sPass)
def c0_is_integer : List D → List O → R D := ar 1 (runF 1 n_is_integer)
def c_is_integer : List D → List O → R D := Den.apart c0_is_integer
theorem sc_is_integer : FnScope ["value"] ["value"] (defScope (topS 1)) := ⟨rfl, rfl, rfl, by decide +kernel, rfl, by decide +kernel, by decide +kernel⟩
theorem b_is_integer (M : MG T mg)  (cdv : Value) (A : Around) (outer : List Env) (s : Shared) (H : Hp) (E : XK) (hr : Room 0 (A.deeper (envOfC "is_integer" (defScope (topS 1)) s.heap.objs.size (T.fad 0) cdv))) :
    SSs T (cxOf (L2.CX P w) P w T.K mg base ["value"] "is_integer" (defScope (topS 1)) (T.fad 0) cdv A outer s H E) (WF E) (defBody (topS 1)) n_is_integer := by
  have nd := sc_is_integer.nd
  have he : Here (cxOf (L2.CX P w) P w T.K mg base ["value"] "is_integer" (defScope (topS 1)) (T.fad 0) cdv A outer s H E) (WF E) false 0 := here_fn hr
  exact (sss_cons (ss_ret (se_and (se_callB (bd_isi rfl) rfl M.b_isinstance bt_isinstance (sa_cons (se_var (i := 0) rfl (by first | exact Or.inl rfl | exact Or.inr (Or.inl rfl) | exact Or.inr (Or.inr rfl))) (sa_cons (se_ty rfl M.b_int bt_int) sa_nil))) (se_one (se_not (se_callB (bd_isi rfl) rfl M.b_isinstance bt_isinstance (sa_cons (se_var (i := 0) rfl (by first | exact Or.inl rfl | exact Or.inr (Or.inl rfl) | exact Or.inr (Or.inr rfl))) (sa_cons (se_ty rfl M.b_bool bt_bool) sa_nil)))))))
    sss_nil)

theorem k_is_integer (M : MG T mg) (D0 : DefAt T "is_integer" "is_integer" (topS 1) 0 ["value"])   : CalG T P w mg base false 1 0 c_is_integer :=
  (cal_of D0 sc_is_integer fun cdv A outer s H E _ hr => b_is_integer M  cdv A outer s H E hr).apart

/-! is_index -/
def n_is_index : DS := (sSeq (sRet (dAnd (dFn c_is_integer (dCons (dVar 0) dNil)) (dChain oLe oLt (dC (.int 0)) (dVar 0) (dVar 1)))) sPass)
def c0_is_index : List D → List O → R D := ar 2 (runF 2 n_is_index)
def c_is_index : List D → List O → R D := Den.apart c0_is_index
theorem sc_is_index : FnScope ["value", "many"] ["value", "many"] (defScope (topS 2)) := ⟨rfl, rfl, rfl, by decide +kernel, rfl, by decide +kernel, by decide +kernel⟩
theorem b_is_index (M : MG T mg) (C_is_integer : CalG T P w mg base false 1 0 c_is_integer) (cdv : Value) (A : Around) (outer : List Env) (s : Shared) (H : Hp) (E : XK) (hr : Room 1 (A.deeper (envOfC "is_index" (defScope (topS 2)) s.heap.objs.size (T.fad 1) cdv))) :
    SSs T (cxOf (L2.CX P w) P w T.K mg base ["value", "many"] "is_index" (defScope (topS 2)) (T.fad 1) cdv A outer s H E) (WF E) (defBody (topS 2)) n_is_index := by
  have nd := sc_is_index.nd
  have he : Here (cxOf (L2.CX P w) P w T.K mg base ["value", "many"] "is_index" (defScope (topS 2)) (T.fad 1) cdv A outer s H E) (WF E) false 1 := here_fn hr
  exact (sss_cons (ss_ret (se_and (se_fnCall (calX (C_is_integer.mono (by decide))) he rfl M.f_is_integer (sa_cons (se_var (i := 0) rfl (by first | exact Or.inl rfl | exact Or.inr (Or.inl rfl) | exact Or.inr (Or.inr rfl))) sa_nil)) (se_one (se_chain od_le od_lt se_int (se_var (i := 0) rfl (by first | exact Or.inl rfl | exact Or.inr (Or.inl rfl) | exact Or.inr (Or.inr rfl))) (se_var (i := 1) rfl (by first | exact Or.inl rfl | exact Or.inr (Or.inl rfl) | exact Or.inr (Or.inr rfl))) rfl))))
    sss_nil)

theorem k_is_index (M : MG T mg) (D0 : DefAt T "is_index" "is_index" (topS 2) 1 ["value", "many"]) (C_is_integer : CalG T P w mg base false 1 0 c_is_integer)  : CalG T P w mg base false 2 1 c_is_index :=
  (cal_of D0 sc_is_index fun cdv A outer s H E _ hr => b_is_index M C_is_integer cdv A outer s H E hr).apart

/-! has_size -/
def n_has_size : DS := (sSeq (sRet (dAnd (dCall bIsi (dCons (dVar 0) (dCons (dC (.ty "tuple")) dNil))) (dChain oLe oLe (dVar 1) (dCall bLen (dCons (dVar 0) dNil)) (dVar 2)))) sPass)
def c0_has_size : List D → List O → R D := ar 3 (runF 3 n_has_size)
def c_has_size : List D → List O → R D := Den.apart c0_has_size
theorem sc_has_size : FnScope ["value", "least", "most"] ["value", "least", "most"] (defScope (topS 3)) := ⟨rfl, rfl, rfl, by decide +kernel, rfl, by decide +kernel, by decide +kernel⟩
theorem b_has_size (M : MG T mg)  (cdv : Value) (A : Around) (outer : List Env) (s : Shared) (H : Hp) (E : XK) (hr : Room 0 (A.deeper (envOfC "has_size" (defScope (topS 3)) s.heap.objs.size (T.fad 2) cdv))) :
    SSs T (cxOf (L2.CX P w) P w T.K mg base ["value", "least", "most"] "has_size" (defScope (topS 3)) (T.fad 2) cdv A outer s H E) (WF E) (defBody (topS 3)) n_has_size := by
  have nd := sc_has_size.nd
  have he : Here (cxOf (L2.CX P w) P w T.K mg base ["value", "least", "most"] "has_size" (defScope (topS 3)) (T.fad 2) cdv A outer s H E) (WF E) false 0 := here_fn hr
  exact (sss_cons (ss_ret (se_and (se_callB (bd_isi rfl) rfl M.b_isinstance bt_isinstance (sa_cons (se_var (i := 0) rfl (by first | exact Or.inl rfl | exact Or.inr (Or.inl rfl) | exact Or.inr (Or.inr rfl))) (sa_cons (se_ty rfl M.b_tuple bt_tuple) sa_nil))) (se_one (se_chain od_le od_le (se_var (i := 1) rfl (by first | exact Or.inl rfl | exact Or.inr (Or.inl rfl) | exact Or.inr (Or.inr rfl))) (se_callB (bd_len rfl) rfl M.b_len bt_len (sa_cons (se_var (i := 0) rfl (by first | exact Or.inl rfl | exact Or.inr (Or.inl rfl) | exact Or.inr (Or.inr rfl))) sa_nil)) (se_var (i := 2) rfl (by first | exact Or.inl rfl | exact Or.inr (Or.inl rfl) | exact Or.inr (Or.inr rfl))) rfl))))
    sss_nil)

theorem k_has_size (M : MG T mg) (D0 : DefAt T "has_size" "has_size" (topS 3) 2 ["value", "least", "most"])   : CalG T P w mg base false 1 2 c_has_size :=
  (cal_of D0 sc_has_size fun cdv A outer s H E _ hr => b_has_size M  cdv A outer s H E hr).apart

/-! are_ascending -/
def n_are_ascending : DS := (sSeq (sIf (dOrT (dNotT (dTru (dFn c_has_size (dCons (dVar 0) (dCons (dC (.int 0)) (dCons (dVar 1) dNil)))))) (dNotT (dTru (dCall bAllT (dCons (dLc [2] (jSeqA (dVar 0)) (gNm 2) dYes (dFn c_is_index (dCons (dVar 2) (dCons (dVar 1) dNil)))) dNil))))) (sSeq (sRet (dC (.bl false))) sPass) sPass) (sSeq (sRet (dCall bAllT (dCons (dLc [3] (jI (iRange1 (dCons (dOp oSub (dCall bLen (dCons (dVar 0) dNil)) (dC (.int 1))) dNil))) (gNm 3) dYes (dOp oLt (dIxA (dVar 0) (dVar 3)) (dIxA (dVar 0) (dOp oAdd (dVar 3) (dC (.int 1)))))) dNil))) sPass))
def c0_are_ascending : List D → List O → R D := ar 2 (runF 4 n_are_ascending)
def c_are_ascending : List D → List O → R D := Den.apart c0_are_ascending
theorem sc_are_ascending : FnScope ["value", "many", "at", "k"] ["value", "many"] (defScope (topS 4)) := ⟨rfl, rfl, rfl, by decide +kernel, rfl, by decide +kernel, by decide +kernel⟩
theorem b_are_ascending (M : MG T mg) (C_has_size : CalG T P w mg base false 1 2 c_has_size) (C_is_index : CalG T P w mg base false 2 1 c_is_index) (cdv : Value) (A : Around) (outer : List Env) (s : Shared) (H : Hp) (E : XK) (hr : Room 2 (A.deeper (envOfC "are_ascending" (defScope (topS 4)) s.heap.objs.size (T.fad 3) cdv))) :
    SSs T (cxOf (L2.CX P w) P w T.K mg base ["value", "many", "at", "k"] "are_ascending" (defScope (topS 4)) (T.fad 3) cdv A outer s H E) (WF E) (defBody (topS 4)) n_are_ascending := by
  have nd := sc_are_ascending.nd
  have he : Here (cxOf (L2.CX P w) P w T.K mg base ["value", "many", "at", "k"] "are_ascending" (defScope (topS 4)) (T.fad 3) cdv A outer s H E) (WF E) false 2 := here_fn hr
  exact (sss_cons (ss_if (SW.st (sw_or (st_not (st_tru rfl (se_fnCall (calX (C_has_size.mono (by decide))) he rfl M.f_has_size (sa_cons (se_var (i := 0) rfl (by first | exact Or.inl rfl | exact Or.inr (Or.inl rfl) | exact Or.inr (Or.inr rfl))) (sa_cons se_int (sa_cons (se_var (i := 1) rfl (by first | exact Or.inl rfl | exact Or.inr (Or.inl rfl) | exact Or.inr (Or.inr rfl))) sa_nil)))))) (sw_or1 (st_not (st_tru rfl (se_callB (bd_allT rfl rfl) rfl M.b_all bt_all (sa_cons (se_lc (own := [("at", 2)]) rfl nd (sj_seqA rfl (se_var (i := 0) rfl (by first | exact Or.inl rfl | exact Or.inr (Or.inl rfl) | exact Or.inr (Or.inr rfl)))) (blkOk_by (N := ["value", "many", "at", "k"]) (sc := defScope (topS 4)) (by decide +kernel)) (by decide) (fun _ _ _ _ _ => (sg_name (i := 2) nd rfl (by first | exact Or.inl rfl | exact Or.inr rfl) (by first | exact Or.inl rfl | exact Or.inr rfl))) (fun _ _ _ _ _ => spt_nil) (fun _ _ _ _ _ => have he := here_blk he; (se_fnCall (calX (C_is_index.mono (by decide))) he rfl M.f_is_index (sa_cons (se_var (i := 2) rfl (by first | exact Or.inl rfl | exact Or.inr (Or.inl rfl) | exact Or.inr (Or.inr rfl))) (sa_cons (se_var (i := 1) rfl (by first | exact Or.inl rfl | exact Or.inr (Or.inl rfl) | exact Or.inr (Or.inr rfl))) sa_nil))))) sa_nil))))))) ((sss_cons (ss_ret se_bl)
    sss_nil)) (sss_nil))
    (sss_cons (ss_ret (se_callB (bd_allT rfl rfl) rfl M.b_all bt_all (sa_cons (se_lc (own := [("k", 3)]) rfl nd (sj_of (si_range1 rfl M.b_range (sa_cons (se_op od_sub (se_callB (bd_len rfl) rfl M.b_len bt_len (sa_cons (se_var (i := 0) rfl (by first | exact Or.inl rfl | exact Or.inr (Or.inl rfl) | exact Or.inr (Or.inr rfl))) sa_nil)) se_int) sa_nil))) (blkOk_by (N := ["value", "many", "at", "k"]) (sc := defScope (topS 4)) (by decide +kernel)) (by decide) (fun _ _ _ _ _ => (sg_name (i := 3) nd rfl (by first | exact Or.inl rfl | exact Or.inr rfl) (by first | exact Or.inl rfl | exact Or.inr rfl))) (fun _ _ _ _ _ => spt_nil) (fun _ _ _ _ _ => (se_cmp od_lt (se_ixA rfl (se_var (i := 0) rfl (by first | exact Or.inl rfl | exact Or.inr (Or.inl rfl) | exact Or.inr (Or.inr rfl))) (se_var (i := 3) rfl (by first | exact Or.inl rfl | exact Or.inr (Or.inl rfl) | exact Or.inr (Or.inr rfl))) (fun _ _ => rfl)) (se_ixA rfl (se_var (i := 0) rfl (by first | exact Or.inl rfl | exact Or.inr (Or.inl rfl) | exact Or.inr (Or.inr rfl))) (se_op (od_add rfl) (se_var (i := 3) rfl (by first | exact Or.inl rfl | exact Or.inr (Or.inl rfl) | exact Or.inr (Or.inr rfl))) se_int) (fun _ _ => rfl)) (nomark _)))) sa_nil)))
    sss_nil))

theorem k_are_ascending (M : MG T mg) (D0 : DefAt T "are_ascending" "are_ascending" (topS 4) 3 ["value", "many"]) (C_has_size : CalG T P w mg base false 1 2 c_has_size) (C_is_index : CalG T P w mg base false 2 1 c_is_index)  : CalG T P w mg base false 3 3 c_are_ascending :=
  (cal_of D0 sc_are_ascending fun cdv A outer s H E _ hr => b_are_ascending M C_has_size C_is_index cdv A outer s H E hr).apart

/-! has_form -/
def n_has_form : DS := (sSeq (sRet (dAnd (dFn c_has_size (dCons (dVar 0) (dCons (dVar 2) (dCons (dVar 2) dNil)))) (dAnd (dCall bIsi (dCons (dIxA (dVar 0) (dC (.int 0))) (dCons (dC (.ty "str")) dNil))) (dOp oEq (dIxA (dVar 0) (dC (.int 0))) (dVar 1))))) sPass)
def c0_has_form : List D → List O → R D := ar 3 (runF 3 n_has_form)
def c_has_form : List D → List O → R D := Den.apart c0_has_form
theorem sc_has_form : FnScope ["value", "word", "size"] ["value", "word", "size"] (defScope (topS 5)) := ⟨rfl, rfl, rfl, by decide +kernel, rfl, by decide +kernel, by decide +kernel⟩
theorem b_has_form (M : MG T mg) (C_has_size : CalG T P w mg base false 1 2 c_has_size) (cdv : Value) (A : Around) (outer : List Env) (s : Shared) (H : Hp) (E : XK) (hr : Room 1 (A.deeper (envOfC "has_form" (defScope (topS 5)) s.heap.objs.size (T.fad 4) cdv))) :
    SSs T (cxOf (L2.CX P w) P w T.K mg base ["value", "word", "size"] "has_form" (defScope (topS 5)) (T.fad 4) cdv A outer s H E) (WF E) (defBody (topS 5)) n_has_form := by
  have nd := sc_has_form.nd
  have he : Here (cxOf (L2.CX P w) P w T.K mg base ["value", "word", "size"] "has_form" (defScope (topS 5)) (T.fad 4) cdv A outer s H E) (WF E) false 1 := here_fn hr
  exact (sss_cons (ss_ret (se_and (se_fnCall (calX (C_has_size.mono (by decide))) he rfl M.f_has_size (sa_cons (se_var (i := 0) rfl (by first | exact Or.inl rfl | exact Or.inr (Or.inl rfl) | exact Or.inr (Or.inr rfl))) (sa_cons (se_var (i := 2) rfl (by first | exact Or.inl rfl | exact Or.inr (Or.inl rfl) | exact Or.inr (Or.inr rfl))) (sa_cons (se_var (i := 2) rfl (by first | exact Or.inl rfl | exact Or.inr (Or.inl rfl) | exact Or.inr (Or.inr rfl))) sa_nil)))) (se_and (se_callB (bd_isi rfl) rfl M.b_isinstance bt_isinstance (sa_cons (se_ixA rfl (se_var (i := 0) rfl (by first | exact Or.inl rfl | exact Or.inr (Or.inl rfl) | exact Or.inr (Or.inr rfl))) se_int (fun _ _ => rfl)) (sa_cons (se_ty rfl M.b_str bt_str) sa_nil))) (se_one (se_cmp (od_eq rfl hr.units) (se_ixA rfl (se_var (i := 0) rfl (by first | exact Or.inl rfl | exact Or.inr (Or.inl rfl) | exact Or.inr (Or.inr rfl))) se_int (fun _ _ => rfl)) (se_var (i := 1) rfl (by first | exact Or.inl rfl | exact Or.inr (Or.inl rfl) | exact Or.inr (Or.inr rfl))) (nomark _))))))
    sss_nil)

theorem k_has_form (M : MG T mg) (D0 : DefAt T "has_form" "has_form" (topS 5) 4 ["value", "word", "size"]) (C_has_size : CalG T P w mg base false 1 2 c_has_size)  : CalG T P w mg base false 2 4 c_has_form :=
  (cal_of D0 sc_has_form fun cdv A outer s H E _ hr => b_has_form M C_has_size cdv A outer s H E hr).apart

/-! is_told -/
def n_is_told : DS := (sSeq (sRet (dFn c_has_form (dCons (dVar 0) (dCons (dVar 1) (dCons (dC (.int 2)) dNil))))) sPass)
def c0_is_told : List D → List O → R D := ar 2 (runF 2 n_is_told)
def c_is_told : List D → List O → R D := Den.apart c0_is_told
theorem sc_is_told : FnScope ["value", "word"] ["value", "word"] (defScope (topS 6)) := ⟨rfl, rfl, rfl, by decide +kernel, rfl, by decide +kernel, by decide +kernel⟩
theorem b_is_told (M : MG T mg) (C_has_form : CalG T P w mg base false 2 4 c_has_form) (cdv : Value) (A : Around) (outer : List Env) (s : Shared) (H : Hp) (E : XK) (hr : Room 2 (A.deeper (envOfC "is_told" (defScope (topS 6)) s.heap.objs.size (T.fad 5) cdv))) :
    SSs T (cxOf (L2.CX P w) P w T.K mg base ["value", "word"] "is_told" (defScope (topS 6)) (T.fad 5) cdv A outer s H E) (WF E) (defBody (topS 6)) n_is_told := by
  have nd := sc_is_told.nd
  have he : Here (cxOf (L2.CX P w) P w T.K mg base ["value", "word"] "is_told" (defScope (topS 6)) (T.fad 5) cdv A outer s H E) (WF E) false 2 := here_fn hr
  exact (sss_cons (ss_ret (se_fnCall (calX (C_has_form.mono (by decide))) he rfl M.f_has_form (sa_cons (se_var (i := 0) rfl (by first | exact Or.inl rfl | exact Or.inr (Or.inl rfl) | exact Or.inr (Or.inr rfl))) (sa_cons (se_var (i := 1) rfl (by first | exact Or.inl rfl | exact Or.inr (Or.inl rfl) | exact Or.inr (Or.inr rfl))) (sa_cons se_int sa_nil)))))
    sss_nil)

theorem k_is_told (M : MG T mg) (D0 : DefAt T "is_told" "is_told" (topS 6) 5 ["value", "word"]) (C_has_form : CalG T P w mg base false 2 4 c_has_form)  : CalG T P w mg base false 3 5 c_is_told :=
  (cal_of D0 sc_is_told fun cdv A outer s H E _ hr => b_is_told M C_has_form cdv A outer s H E hr).apart

/-! mask_of -/
def n_mask_of : DS := (sSeq (sAsg (dC (.int 0)) (gNm 1)) (sSeq (sFor (jSeqA (dVar 0)) (gNm 2) (sSeq (sAsg (dOp oAdd (dOp oMultA (dC (.int 2)) (dVar 1)) (dVar 2)) (gNm 1)) sPass)) (sSeq (sRet (dVar 1)) sPass)))
def c0_mask_of : List D → List O → R D := ar 1 (runF 3 n_mask_of)
def c_mask_of : List D → List O → R D := Den.apart c0_mask_of
theorem sc_mask_of : FnScope ["row", "mask", "bit"] ["row"] (defScope (topS 12)) := ⟨rfl, rfl, rfl, by decide +kernel, rfl, by decide +kernel, by decide +kernel⟩
theorem b_mask_of (M : MG T mg)  (cdv : Value) (A : Around) (outer : List Env) (s : Shared) (H : Hp) (E : XK) (hr : Room 0 (A.deeper (envOfC "mask_of" (defScope (topS 12)) s.heap.objs.size (T.fad 6) cdv))) :
    SSs T (cxOf (L2.CX P w) P w T.K mg base ["row", "mask", "bit"] "mask_of" (defScope (topS 12)) (T.fad 6) cdv A outer s H E) (WF E) (defBody (topS 12)) n_mask_of := by
  have nd := sc_mask_of.nd
  have he : Here (cxOf (L2.CX P w) P w T.K mg base ["row", "mask", "bit"] "mask_of" (defScope (topS 12)) (T.fad 6) cdv A outer s H E) (WF E) false 0 := here_fn hr
  exact (sss_cons (ss_asg se_int (sg_name (i := 1) nd rfl (by first | exact Or.inl rfl | exact Or.inr rfl) (by first | exact Or.inl rfl | exact Or.inr rfl)))
    (sss_cons (ss_for pas_fn rfl (sj_seqA rfl (se_var (i := 0) rfl (by first | exact Or.inl rfl | exact Or.inr (Or.inl rfl) | exact Or.inr (Or.inr rfl)))) (sg_name (i := 2) nd rfl (by first | exact Or.inl rfl | exact Or.inr rfl) (by first | exact Or.inl rfl | exact Or.inr rfl)) ((sss_cons (ss_asg (se_op (od_add rfl) (se_op (od_multA rfl) se_int (se_var (i := 1) rfl (by first | exact Or.inl rfl | exact Or.inr (Or.inl rfl) | exact Or.inr (Or.inr rfl)))) (se_var (i := 2) rfl (by first | exact Or.inl rfl | exact Or.inr (Or.inl rfl) | exact Or.inr (Or.inr rfl)))) (sg_name (i := 1) nd rfl (by first | exact Or.inl rfl | exact Or.inr rfl) (by first | exact Or.inl rfl | exact Or.inr rfl)))
    sss_nil)))
    (sss_cons (ss_ret (se_var (i := 1) rfl (by first | exact Or.inl rfl | exact Or.inr (Or.inl rfl) | exact Or.inr (Or.inr rfl))))
    sss_nil)))

theorem k_mask_of (M : MG T mg) (D0 : DefAt T "mask_of" "mask_of" (topS 12) 6 ["row"])   : CalG T P w mg base false 1 6 c_mask_of :=
  (cal_of D0 sc_mask_of fun cdv A outer s H E _ hr => b_mask_of M  cdv A outer s H E hr).apart

/-! row_of -/
def n_row_of : DS := (sSeq (sRet (dCall bTup (dCons (dLc [2] (jI (iRangeD (dCons (dOp oSub (dVar 1) (dC (.int 1))) (dCons (dUn oNeg (dC (.int 1))) (dCons (dUn oNeg (dC (.int 1))) dNil))))) (gNm 2) dYes (dOp oAnd (dOp oShr (dVar 0) (dVar 2)) (dC (.int 1)))) dNil))) sPass)
def c0_row_of : List D → List O → R D := ar 2 (runF 3 n_row_of)
def c_row_of : List D → List O → R D := Den.apart c0_row_of
theorem sc_row_of : FnScope ["mask", "length", "place"] ["mask", "length"] (defScope (topS 13)) := ⟨rfl, rfl, rfl, by decide +kernel, rfl, by decide +kernel, by decide +kernel⟩
theorem b_row_of (M : MG T mg)  (cdv : Value) (A : Around) (outer : List Env) (s : Shared) (H : Hp) (E : XK) (hr : Room 0 (A.deeper (envOfC "row_of" (defScope (topS 13)) s.heap.objs.size (T.fad 7) cdv))) :
    SSs T (cxOf (L2.CX P w) P w T.K mg base ["mask", "length", "place"] "row_of" (defScope (topS 13)) (T.fad 7) cdv A outer s H E) (WF E) (defBody (topS 13)) n_row_of := by
  have nd := sc_row_of.nd
  have he : Here (cxOf (L2.CX P w) P w T.K mg base ["mask", "length", "place"] "row_of" (defScope (topS 13)) (T.fad 7) cdv A outer s H E) (WF E) false 0 := here_fn hr
  exact (sss_cons (ss_ret (se_callT (bd_tup rfl) rfl M.b_tuple bt_tuple (sa_cons (se_lc (own := [("place", 2)]) rfl nd (sj_of (si_rangeD rfl M.b_range (sa_cons (se_op od_sub (se_var (i := 1) rfl (by first | exact Or.inl rfl | exact Or.inr (Or.inl rfl) | exact Or.inr (Or.inr rfl))) se_int) (sa_cons (se_neg se_int) (sa_cons (se_neg se_int) sa_nil))))) (blkOk_by (N := ["mask", "length", "place"]) (sc := defScope (topS 13)) (by decide +kernel)) (by decide) (fun _ _ _ _ _ => (sg_name (i := 2) nd rfl (by first | exact Or.inl rfl | exact Or.inr rfl) (by first | exact Or.inl rfl | exact Or.inr rfl))) (fun _ _ _ _ _ => spt_nil) (fun _ _ _ _ _ => (se_op od_and (se_op od_shr (se_var (i := 0) rfl (by first | exact Or.inl rfl | exact Or.inr (Or.inl rfl) | exact Or.inr (Or.inr rfl))) (se_var (i := 2) rfl (by first | exact Or.inl rfl | exact Or.inr (Or.inl rfl) | exact Or.inr (Or.inr rfl)))) se_int))) sa_nil)))
    sss_nil)

theorem k_row_of (M : MG T mg) (D0 : DefAt T "row_of" "row_of" (topS 13) 7 ["mask", "length"])   : CalG T P w mg base false 1 7 c_row_of :=
  (cal_of D0 sc_row_of fun cdv A outer s H E _ hr => b_row_of M  cdv A outer s H E hr).apart

/-! places_of -/
def n_places_of : DS := (sSeq (sRet (dCall bTup (dCons (dLc [1] (jI (iRange1 (dCons (dBits (dVar 0)) dNil))) (gNm 1) (dTru (dOp oAnd (dOp oShr (dVar 0) (dVar 1)) (dC (.int 1)))) (dVar 1)) dNil))) sPass)
def c0_places_of : List D → List O → R D := ar 1 (runF 2 n_places_of)
def c_places_of : List D → List O → R D := Den.apart c0_places_of
theorem sc_places_of : FnScope ["pick", "index"] ["pick"] (defScope (topS 14)) := ⟨rfl, rfl, rfl, by decide +kernel, rfl, by decide +kernel, by decide +kernel⟩
theorem b_places_of (M : MG T mg)  (cdv : Value) (A : Around) (outer : List Env) (s : Shared) (H : Hp) (E : XK) (hr : Room 0 (A.deeper (envOfC "places_of" (defScope (topS 14)) s.heap.objs.size (T.fad 8) cdv))) :
    SSs T (cxOf (L2.CX P w) P w T.K mg base ["pick", "index"] "places_of" (defScope (topS 14)) (T.fad 8) cdv A outer s H E) (WF E) (defBody (topS 14)) n_places_of := by
  have nd := sc_places_of.nd
  have he : Here (cxOf (L2.CX P w) P w T.K mg base ["pick", "index"] "places_of" (defScope (topS 14)) (T.fad 8) cdv A outer s H E) (WF E) false 0 := here_fn hr
  exact (sss_cons (ss_ret (se_callT (bd_tup rfl) rfl M.b_tuple bt_tuple (sa_cons (se_lc (own := [("index", 1)]) rfl nd (sj_of (si_range1 rfl M.b_range (sa_cons (se_bits (se_var (i := 0) rfl (by first | exact Or.inl rfl | exact Or.inr (Or.inl rfl) | exact Or.inr (Or.inr rfl)))) sa_nil))) (blkOk_by (N := ["pick", "index"]) (sc := defScope (topS 14)) (by decide +kernel)) (by decide) (fun _ _ _ _ _ => (sg_name (i := 1) nd rfl (by first | exact Or.inl rfl | exact Or.inr rfl) (by first | exact Or.inl rfl | exact Or.inr rfl))) (fun _ _ _ _ _ => (spt_one (st_tru rfl (se_op od_and (se_op od_shr (se_var (i := 0) rfl (by first | exact Or.inl rfl | exact Or.inr (Or.inl rfl) | exact Or.inr (Or.inr rfl))) (se_var (i := 1) rfl (by first | exact Or.inl rfl | exact Or.inr (Or.inl rfl) | exact Or.inr (Or.inr rfl)))) se_int)))) (fun _ _ _ _ _ => (se_var (i := 1) rfl (by first | exact Or.inl rfl | exact Or.inr (Or.inl rfl) | exact Or.inr (Or.inr rfl))))) sa_nil)))
    sss_nil)

theorem k_places_of (M : MG T mg) (D0 : DefAt T "places_of" "places_of" (topS 14) 8 ["pick"])   : CalG T P w mg base false 1 8 c_places_of :=
  (cal_of D0 sc_places_of fun cdv A outer s H E _ hr => b_places_of M  cdv A outer s H E hr).apart

/-! pick_where -/
def n_pick_where : DS := (sSeq (sRet (dCall bSum (dCons (dLc [1, 2] (jI (iEnumT (dCons (dVar 0) dNil))) (gTpA 2 (gsCons (gNm 1) (gsCons (gNm 2) gsNil))) (dTru (dVar 2)) (dOp oShl (dC (.int 1)) (dVar 1))) dNil))) sPass)
def c0_pick_where : List D → List O → R D := ar 1 (runF 3 n_pick_where)
def c_pick_where : List D → List O → R D := Den.apart c0_pick_where
theorem sc_pick_where : FnScope ["bits", "index", "bit"] ["bits"] (defScope (topS 15)) := ⟨rfl, rfl, rfl, by decide +kernel, rfl, by decide +kernel, by decide +kernel⟩
theorem b_pick_where (M : MG T mg)  (cdv : Value) (A : Around) (outer : List Env) (s : Shared) (H : Hp) (E : XK) (hr : Room 0 (A.deeper (envOfC "pick_where" (defScope (topS 15)) s.heap.objs.size (T.fad 9) cdv))) :
    SSs T (cxOf (L2.CX P w) P w T.K mg base ["bits", "index", "bit"] "pick_where" (defScope (topS 15)) (T.fad 9) cdv A outer s H E) (WF E) (defBody (topS 15)) n_pick_where := by
  have nd := sc_pick_where.nd
  have he : Here (cxOf (L2.CX P w) P w T.K mg base ["bits", "index", "bit"] "pick_where" (defScope (topS 15)) (T.fad 9) cdv A outer s H E) (WF E) false 0 := here_fn hr
  exact (sss_cons (ss_ret (se_callB (bd_sum rfl rfl) rfl M.b_sum bt_sum (sa_cons (se_lc (own := [("index", 1), ("bit", 2)]) rfl nd (sj_of (si_enumT rfl rfl M.b_enumerate (sa_cons (se_var (i := 0) rfl (by first | exact Or.inl rfl | exact Or.inr (Or.inl rfl) | exact Or.inr (Or.inr rfl))) sa_nil))) (blkOk_by (N := ["bits", "index", "bit"]) (sc := defScope (topS 15)) (by decide +kernel)) (by decide) (fun _ _ _ _ _ => (sg_tupA rfl rfl (sgs_cons (sg_name (i := 1) nd rfl (by first | exact Or.inl rfl | exact Or.inr rfl) (by first | exact Or.inl rfl | exact Or.inr rfl)) (sgs_cons (sg_name (i := 2) nd rfl (by first | exact Or.inl rfl | exact Or.inr rfl) (by first | exact Or.inl rfl | exact Or.inr rfl)) sgs_nil)) rfl rfl)) (fun _ _ _ _ _ => (spt_one (st_tru rfl (se_var (i := 2) rfl (by first | exact Or.inl rfl | exact Or.inr (Or.inl rfl) | exact Or.inr (Or.inr rfl)))))) (fun _ _ _ _ _ => (se_op od_shl se_int (se_var (i := 1) rfl (by first | exact Or.inl rfl | exact Or.inr (Or.inl rfl) | exact Or.inr (Or.inr rfl)))))) sa_nil)))
    sss_nil)

theorem k_pick_where (M : MG T mg) (D0 : DefAt T "pick_where" "pick_where" (topS 15) 9 ["bits"])   : CalG T P w mg base false 1 9 c_pick_where :=
  (cal_of D0 sc_pick_where fun cdv A outer s H E _ hr => b_pick_where M  cdv A outer s H E hr).apart

/-! ones -/
def n_ones : DS := (sSeq (sRet (dMeth isS mCount (dBin (dVar 0)) (dCons (dC (.str "1")) dNil))) sPass)
def c0_ones : List D → List O → R D := ar 1 (runF 1 n_ones)
def c_ones : List D → List O → R D := Den.apart c0_ones
theorem sc_ones : FnScope ["mask"] ["mask"] (defScope (topS 16)) := ⟨rfl, rfl, rfl, by decide +kernel, rfl, by decide +kernel, by decide +kernel⟩
theorem b_ones (M : MG T mg)  (cdv : Value) (A : Around) (outer : List Env) (s : Shared) (H : Hp) (E : XK) (hr : Room 0 (A.deeper (envOfC "ones" (defScope (topS 16)) s.heap.objs.size (T.fad 10) cdv))) :
    SSs T (cxOf (L2.CX P w) P w T.K mg base ["mask"] "ones" (defScope (topS 16)) (T.fad 10) cdv A outer s H E) (WF E) (defBody (topS 16)) n_ones := by
  have nd := sc_ones.nd
  have he : Here (cxOf (L2.CX P w) P w T.K mg base ["mask"] "ones" (defScope (topS 16)) (T.fad 10) cdv A outer s H E) (WF E) false 0 := here_fn hr
  exact (sss_cons (ss_ret (se_meth (pe_bm PySem.F.plainAttrs_str PySem.F.slot_str_count PySem.F.type_str_count md_count pe_w pa_w) chk_str (se_joined1 (se_bin (se_var (i := 0) rfl (by first | exact Or.inl rfl | exact Or.inr (Or.inl rfl) | exact Or.inr (Or.inr rfl))) (pe_joined1 pe_str) rfl)) (sa_cons se_str sa_nil)))
    sss_nil)

theorem k_ones (M : MG T mg) (D0 : DefAt T "ones" "ones" (topS 16) 10 ["mask"])   : CalG T P w mg base false 1 10 c_ones :=
  (cal_of D0 sc_ones fun cdv A outer s H E _ hr => b_ones M  cdv A outer s H E hr).apart

/-! put_down -/
def n_put_down : DS := (sSeq (sFor (jSeqA (dVar 0)) (gTpA 3 (gsCons (gNm 3) (gsCons (gNm 4) (gsCons (gNm 5) gsNil)))) (sSeq (sIf (dTru (dOp oAnd (dVar 1) (dVar 3))) (sSeq (sAsg (dOp oXor (dVar 1) (dVar 4)) (gNm 1)) (sSeq (sAsg (dOp oXor (dVar 2) (dVar 5)) (gNm 2)) sPass)) sPass) sPass)) (sSeq (sRet (dTup (dCons (dVar 1) (dCons (dVar 2) dNil)))) sPass))
def c0_put_down : List D → List O → R D := ar 3 (runF 6 n_put_down)
def c_put_down : List D → List O → R D := Den.apart c0_put_down
theorem sc_put_down : FnScope ["kept", "mask", "pick", "head", "other", "others"] ["kept", "mask", "pick"] (defScope (topS 17)) := ⟨rfl, rfl, rfl, by decide +kernel, rfl, by decide +kernel, by decide +kernel⟩
theorem b_put_down (M : MG T mg)  (cdv : Value) (A : Around) (outer : List Env) (s : Shared) (H : Hp) (E : XK) (hr : Room 0 (A.deeper (envOfC "put_down" (defScope (topS 17)) s.heap.objs.size (T.fad 11) cdv))) :
    SSs T (cxOf (L2.CX P w) P w T.K mg base ["kept", "mask", "pick", "head", "other", "others"] "put_down" (defScope (topS 17)) (T.fad 11) cdv A outer s H E) (WF E) (defBody (topS 17)) n_put_down := by
  have nd := sc_put_down.nd
  have he : Here (cxOf (L2.CX P w) P w T.K mg base ["kept", "mask", "pick", "head", "other", "others"] "put_down" (defScope (topS 17)) (T.fad 11) cdv A outer s H E) (WF E) false 0 := here_fn hr
  exact (sss_cons (ss_for pas_fn rfl (sj_seqA rfl (se_var (i := 0) rfl (by first | exact Or.inl rfl | exact Or.inr (Or.inl rfl) | exact Or.inr (Or.inr rfl)))) (sg_tupA rfl rfl (sgs_cons (sg_name (i := 3) nd rfl (by first | exact Or.inl rfl | exact Or.inr rfl) (by first | exact Or.inl rfl | exact Or.inr rfl)) (sgs_cons (sg_name (i := 4) nd rfl (by first | exact Or.inl rfl | exact Or.inr rfl) (by first | exact Or.inl rfl | exact Or.inr rfl)) (sgs_cons (sg_name (i := 5) nd rfl (by first | exact Or.inl rfl | exact Or.inr rfl) (by first | exact Or.inl rfl | exact Or.inr rfl)) sgs_nil))) rfl rfl) ((sss_cons (ss_if (st_tru rfl (se_op od_and (se_var (i := 1) rfl (by first | exact Or.inl rfl | exact Or.inr (Or.inl rfl) | exact Or.inr (Or.inr rfl))) (se_var (i := 3) rfl (by first | exact Or.inl rfl | exact Or.inr (Or.inl rfl) | exact Or.inr (Or.inr rfl))))) ((sss_cons (ss_asg (se_op od_xor (se_var (i := 1) rfl (by first | exact Or.inl rfl | exact Or.inr (Or.inl rfl) | exact Or.inr (Or.inr rfl))) (se_var (i := 4) rfl (by first | exact Or.inl rfl | exact Or.inr (Or.inl rfl) | exact Or.inr (Or.inr rfl)))) (sg_name (i := 1) nd rfl (by first | exact Or.inl rfl | exact Or.inr rfl) (by first | exact Or.inl rfl | exact Or.inr rfl)))
    (sss_cons (ss_asg (se_op od_xor (se_var (i := 2) rfl (by first | exact Or.inl rfl | exact Or.inr (Or.inl rfl) | exact Or.inr (Or.inr rfl))) (se_var (i := 5) rfl (by first | exact Or.inl rfl | exact Or.inr (Or.inl rfl) | exact Or.inr (Or.inr rfl)))) (sg_name (i := 2) nd rfl (by first | exact Or.inl rfl | exact Or.inr rfl) (by first | exact Or.inl rfl | exact Or.inr rfl)))
    sss_nil))) (sss_nil))
    sss_nil)))
    (sss_cons (ss_ret (se_tup (sa_cons (se_var (i := 1) rfl (by first | exact Or.inl rfl | exact Or.inr (Or.inl rfl) | exact Or.inr (Or.inr rfl))) (sa_cons (se_var (i := 2) rfl (by first | exact Or.inl rfl | exact Or.inr (Or.inl rfl) | exact Or.inr (Or.inr rfl))) sa_nil))))
    sss_nil))

theorem k_put_down (M : MG T mg) (D0 : DefAt T "put_down" "put_down" (topS 17) 11 ["kept", "mask", "pick"])   : CalG T P w mg base false 1 11 c_put_down :=
  (cal_of D0 sc_put_down fun cdv A outer s H E _ hr => b_put_down M  cdv A outer s H E hr).apart

/-! put_apart -/
def n_put_apart : DS := (sSeq (sPar 1 2 (dCons (dCel dNil) (dCons (dCel dNil) dNil))) (sSeq (sFor (jI (iEnumL (dCons (dVar 0) dNil))) (gTpA 2 (gsCons (gNm 3) (gsCons (gNm 4) gsNil))) (sSeq (sAsg (dFn c_put_down (dCons (dVar 1) (dCons (dVar 4) (dCons (dOp oShl (dC (.int 1)) (dVar 3)) dNil)))) (gTpA 2 (gsCons (gNm 5) (gsCons (gNm 6) gsNil)))) (sSeq (sIf (dTest (dOp oEq (dVar 5) (dC (.int 0)))) (sSeq (sExpr (dMeth isL mApp (dVar 2) (dCons (dVar 6) dNil))) (sSeq sCnt sPass)) sPass) (sSeq (sAsg (dOp oShl (dC (.int 1)) (dOp oSub (dBits (dVar 5)) (dC (.int 1)))) (gNm 7)) (sSeq (sAsg (dLcC [8, 9, 10] (jSeqA (dVar 1)) (gTpA 3 (gsCons (gNm 8) (gsCons (gNm 9) (gsCons (gNm 10) gsNil)))) dYes (dIf (dTru (dOp oAnd (dVar 9) (dVar 7))) (dTup (dCons (dVar 8) (dCons (dOp oXor (dVar 9) (dVar 5)) (dCons (dOp oXor (dVar 10) (dVar 6)) dNil)))) (dTup (dCons (dVar 8) (dCons (dVar 9) (dCons (dVar 10) dNil)))))) (gNm 1)) (sSeq (sExpr (dMeth isL mApp (dVar 1) (dCons (dTup (dCons (dVar 7) (dCons (dVar 5) (dCons (dVar 6) dNil)))) dNil))) sPass)))))) (sSeq (sRet (dTup (dCons (dVar 1) (dCons (dVar 2) dNil)))) sPass)))
def c0_put_apart : List D → List O → R D := ar 1 (runF 11 n_put_apart)
def c_put_apart : List D → List O → R D := Den.apart c0_put_apart
theorem sc_put_apart : FnScope ["masks", "kept", "empty", "index", "given", "mask", "pick", "head", "low", "held", "mine"] ["masks"] (defScope (topS 18)) := ⟨rfl, rfl, rfl, by decide +kernel, rfl, by decide +kernel, by decide +kernel⟩
theorem b_put_apart (M : MG T mg) (C_put_down : CalG T P w mg base false 1 11 c_put_down) (cdv : Value) (A : Around) (outer : List Env) (s : Shared) (H : Hp) (E : XK) (hr : Room 1 (A.deeper (envOfC "put_apart" (defScope (topS 18)) s.heap.objs.size (T.fad 12) cdv))) :
    SSs T (cxOf (L2.CX P w) P w T.K mg base ["masks", "kept", "empty", "index", "given", "mask", "pick", "head", "low", "held", "mine"] "put_apart" (defScope (topS 18)) (T.fad 12) cdv A outer s H E) (WF E) (defBody (topS 18)) n_put_apart := by
  have nd := sc_put_apart.nd
  have he : Here (cxOf (L2.CX P w) P w T.K mg base ["masks", "kept", "empty", "index", "given", "mask", "pick", "head", "low", "held", "mine"] "put_apart" (defScope (topS 18)) (T.fad 12) cdv A outer s H E) (WF E) false 1 := here_fn hr
  exact (sss_cons (ss_par (i := 1) (j := 2) rfl nd rfl rfl (by decide) rfl rfl (sa_cons (se_cel sa_nil) (sa_cons (se_cel sa_nil) sa_nil)) rfl)
    (sss_cons (ss_for pas_fn rfl (sj_of (si_enum rfl rfl M.b_enumerate (sa_cons (se_var (i := 0) rfl (by first | exact Or.inl rfl | exact Or.inr (Or.inl rfl) | exact Or.inr (Or.inr rfl))) sa_nil))) (sg_tupA rfl rfl (sgs_cons (sg_name (i := 3) nd rfl (by first | exact Or.inl rfl | exact Or.inr rfl) (by first | exact Or.inl rfl | exact Or.inr rfl)) (sgs_cons (sg_name (i := 4) nd rfl (by first | exact Or.inl rfl | exact Or.inr rfl) (by first | exact Or.inl rfl | exact Or.inr rfl)) sgs_nil)) rfl rfl) ((sss_cons (ss_asg (se_fnCall (calX (C_put_down.mono (by decide))) he rfl M.f_put_down (sa_cons (se_var (i := 1) rfl (by first | exact Or.inl rfl | exact Or.inr (Or.inl rfl) | exact Or.inr (Or.inr rfl))) (sa_cons (se_var (i := 4) rfl (by first | exact Or.inl rfl | exact Or.inr (Or.inl rfl) | exact Or.inr (Or.inr rfl))) (sa_cons (se_op od_shl se_int (se_var (i := 3) rfl (by first | exact Or.inl rfl | exact Or.inr (Or.inl rfl) | exact Or.inr (Or.inr rfl)))) sa_nil)))) (sg_tupA rfl rfl (sgs_cons (sg_name (i := 5) nd rfl (by first | exact Or.inl rfl | exact Or.inr rfl) (by first | exact Or.inl rfl | exact Or.inr rfl)) (sgs_cons (sg_name (i := 6) nd rfl (by first | exact Or.inl rfl | exact Or.inr rfl) (by first | exact Or.inl rfl | exact Or.inr rfl)) sgs_nil)) rfl rfl))
    (sss_cons (ss_if (st_cmp (od_eq rfl hr.units) (se_var (i := 5) rfl (by first | exact Or.inl rfl | exact Or.inr (Or.inl rfl) | exact Or.inr (Or.inr rfl))) se_int (nomark _)) ((sss_cons (ss_expr (se_meth (pe_bm PySem.F.plainAttrs_list PySem.F.slot_list_append PySem.F.type_list_append md_append pe_w pa_w) (chk_list rfl) (se_var (i := 2) rfl (by first | exact Or.inl rfl | exact Or.inr (Or.inl rfl) | exact Or.inr (Or.inr rfl))) (sa_cons (se_var (i := 6) rfl (by first | exact Or.inl rfl | exact Or.inr (Or.inl rfl) | exact Or.inr (Or.inr rfl))) sa_nil)))
    (sss_cons ss_continue
    sss_nil))) (sss_nil))
    (sss_cons (ss_asg (se_op od_shl se_int (se_op od_sub (se_bits (se_var (i := 5) rfl (by first | exact Or.inl rfl | exact Or.inr (Or.inl rfl) | exact Or.inr (Or.inr rfl)))) se_int)) (sg_name (i := 7) nd rfl (by first | exact Or.inl rfl | exact Or.inr rfl) (by first | exact Or.inl rfl | exact Or.inr rfl)))
    (sss_cons (by first | exact ss_setLcC (own := [("low", 8), ("held", 9), ("mine", 10)]) (i := 1) rfl nd rfl rfl rfl (sj_seqA rfl (se_var (i := 1) rfl (by first | exact Or.inl rfl | exact Or.inr (Or.inl rfl) | exact Or.inr (Or.inr rfl)))) (blkOk_by (N := ["masks", "kept", "empty", "index", "given", "mask", "pick", "head", "low", "held", "mine"]) (sc := defScope (topS 18)) (by decide +kernel)) (by decide) (fun _ _ _ _ _ => (sg_tupA rfl rfl (sgs_cons (sg_name (i := 8) nd rfl (by first | exact Or.inl rfl | exact Or.inr rfl) (by first | exact Or.inl rfl | exact Or.inr rfl)) (sgs_cons (sg_name (i := 9) nd rfl (by first | exact Or.inl rfl | exact Or.inr rfl) (by first | exact Or.inl rfl | exact Or.inr rfl)) (sgs_cons (sg_name (i := 10) nd rfl (by first | exact Or.inl rfl | exact Or.inr rfl) (by first | exact Or.inl rfl | exact Or.inr rfl)) sgs_nil))) rfl rfl)) (fun _ _ _ _ _ => spt_nil) (fun _ _ _ _ _ => (se_if (st_tru rfl (se_op od_and (se_var (i := 9) rfl (by first | exact Or.inl rfl | exact Or.inr (Or.inl rfl) | exact Or.inr (Or.inr rfl))) (se_var (i := 7) rfl (by first | exact Or.inl rfl | exact Or.inr (Or.inl rfl) | exact Or.inr (Or.inr rfl))))) (se_tup (sa_cons (se_var (i := 8) rfl (by first | exact Or.inl rfl | exact Or.inr (Or.inl rfl) | exact Or.inr (Or.inr rfl))) (sa_cons (se_op od_xor (se_var (i := 9) rfl (by first | exact Or.inl rfl | exact Or.inr (Or.inl rfl) | exact Or.inr (Or.inr rfl))) (se_var (i := 5) rfl (by first | exact Or.inl rfl | exact Or.inr (Or.inl rfl) | exact Or.inr (Or.inr rfl)))) (sa_cons (se_op od_xor (se_var (i := 10) rfl (by first | exact Or.inl rfl | exact Or.inr (Or.inl rfl) | exact Or.inr (Or.inr rfl))) (se_var (i := 6) rfl (by first | exact Or.inl rfl | exact Or.inr (Or.inl rfl) | exact Or.inr (Or.inr rfl)))) sa_nil)))) (se_tup (sa_cons (se_var (i := 8) rfl (by first | exact Or.inl rfl | exact Or.inr (Or.inl rfl) | exact Or.inr (Or.inr rfl))) (sa_cons (se_var (i := 9) rfl (by first | exact Or.inl rfl | exact Or.inr (Or.inl rfl) | exact Or.inr (Or.inr rfl))) (sa_cons (se_var (i := 10) rfl (by first | exact Or.inl rfl | exact Or.inr (Or.inl rfl) | exact Or.inr (Or.inr rfl))) sa_nil)))))) | exact ss_asg (se_lcC (own := [("low", 8), ("held", 9), ("mine", 10)]) rfl nd (sj_seqA rfl (se_var (i := 1) rfl (by first | exact Or.inl rfl | exact Or.inr (Or.inl rfl) | exact Or.inr (Or.inr rfl)))) (blkOk_by (N := ["masks", "kept", "empty", "index", "given", "mask", "pick", "head", "low", "held", "mine"]) (sc := defScope (topS 18)) (by decide +kernel)) (by decide) (fun _ _ _ _ _ => (sg_tupA rfl rfl (sgs_cons (sg_name (i := 8) nd rfl (by first | exact Or.inl rfl | exact Or.inr rfl) (by first | exact Or.inl rfl | exact Or.inr rfl)) (sgs_cons (sg_name (i := 9) nd rfl (by first | exact Or.inl rfl | exact Or.inr rfl) (by first | exact Or.inl rfl | exact Or.inr rfl)) (sgs_cons (sg_name (i := 10) nd rfl (by first | exact Or.inl rfl | exact Or.inr rfl) (by first | exact Or.inl rfl | exact Or.inr rfl)) sgs_nil))) rfl rfl)) (fun _ _ _ _ _ => spt_nil) (fun _ _ _ _ _ => (se_if (st_tru rfl (se_op od_and (se_var (i := 9) rfl (by first | exact Or.inl rfl | exact Or.inr (Or.inl rfl) | exact Or.inr (Or.inr rfl))) (se_var (i := 7) rfl (by first | exact Or.inl rfl | exact Or.inr (Or.inl rfl) | exact Or.inr (Or.inr rfl))))) (se_tup (sa_cons (se_var (i := 8) rfl (by first | exact Or.inl rfl | exact Or.inr (Or.inl rfl) | exact Or.inr (Or.inr rfl))) (sa_cons (se_op od_xor (se_var (i := 9) rfl (by first | exact Or.inl rfl | exact Or.inr (Or.inl rfl) | exact Or.inr (Or.inr rfl))) (se_var (i := 5) rfl (by first | exact Or.inl rfl | exact Or.inr (Or.inl rfl) | exact Or.inr (Or.inr rfl)))) (sa_cons (se_op od_xor (se_var (i := 10) rfl (by first | exact Or.inl rfl | exact Or.inr (Or.inl rfl) | exact Or.inr (Or.inr rfl))) (se_var (i := 6) rfl (by first | exact Or.inl rfl | exact Or.inr (Or.inl rfl) | exact Or.inr (Or.inr rfl)))) sa_nil)))) (se_tup (sa_cons (se_var (i := 8) rfl (by first | exact Or.inl rfl | exact Or.inr (Or.inl rfl) | exact Or.inr (Or.inr rfl))) (sa_cons (se_var (i := 9) rfl (by first | exact Or.inl rfl | exact Or.inr (Or.inl rfl) | exact Or.inr (Or.inr rfl))) (sa_cons (se_var (i := 10) rfl (by first | exact Or.inl rfl | exact Or.inr (Or.inl rfl) | exact Or.inr (Or.inr rfl))) sa_nil))))))) (sg_name (i := 1) nd rfl (by first | exact Or.inl rfl | exact Or.inr rfl) (by first | exact Or.inl rfl | exact Or.inr rfl)))
    (sss_cons (ss_expr (se_meth (pe_bm PySem.F.plainAttrs_list PySem.F.slot_list_append PySem.F.type_list_append md_append pe_w pa_w) (chk_list rfl) (se_var (i := 1) rfl (by first | exact Or.inl rfl | exact Or.inr (Or.inl rfl) | exact Or.inr (Or.inr rfl))) (sa_cons (se_tup (sa_cons (se_var (i := 7) rfl (by first | exact Or.inl rfl | exact Or.inr (Or.inl rfl) | exact Or.inr (Or.inr rfl))) (sa_cons (se_var (i := 5) rfl (by first | exact Or.inl rfl | exact Or.inr (Or.inl rfl) | exact Or.inr (Or.inr rfl))) (sa_cons (se_var (i := 6) rfl (by first | exact Or.inl rfl | exact Or.inr (Or.inl rfl) | exact Or.inr (Or.inr rfl))) sa_nil)))) sa_nil)))
    sss_nil)))))))
    (sss_cons (ss_ret (se_tup (sa_cons (se_var (i := 1) rfl (by first | exact Or.inl rfl | exact Or.inr (Or.inl rfl) | exact Or.inr (Or.inr rfl))) (sa_cons (se_var (i := 2) rfl (by first | exact Or.inl rfl | exact Or.inr (Or.inl rfl) | exact Or.inr (Or.inr rfl))) sa_nil))))
    sss_nil)))

theorem k_put_apart (M : MG T mg) (D0 : DefAt T "put_apart" "put_apart" (topS 18) 12 ["masks"]) (C_put_down : CalG T P w mg base false 1 11 c_put_down)  : CalG T P w mg base false 2 12 c_put_apart :=
  (cal_of D0 sc_put_apart fun cdv A outer s H E _ hr => b_put_apart M C_put_down cdv A outer s H E hr).apart

/-! solved_masks -/
def n_solved_masks : DS := (sSeq (sAsg (dFn c_put_apart (dCons (dVar 0) dNil)) (gTpA 2 (gsCons (gNm 2) (gsCons (gNm 3) gsNil)))) (sSeq (sFor (jSeqA (dVar 3)) (gNm 4) (sSeq (sIf (dTru (dOp oAnd (dFn c_ones (dCons (dOp oAnd (dVar 4) (dVar 1)) dNil)) (dC (.int 1)))) (sSeq (sRet (dTup (dCons (dC (.str "bar")) (dCons (dVar 4) dNil)))) sPass) sPass) sPass)) (sSeq (sRet (dTup (dCons (dC (.str "bits")) (dCons (dCall bSum (dCons (dLc [5, 6, 4] (jSeqA (dVar 2)) (gTpA 3 (gsCons (gNm 5) (gsCons (gNm 6) (gsCons (gNm 4) gsNil)))) (dTru (dOp oAnd (dFn c_ones (dCons (dOp oAnd (dVar 4) (dVar 1)) dNil)) (dC (.int 1)))) (dVar 5)) dNil)) dNil)))) sPass)))
def c0_solved_masks : List D → List O → R D := ar 2 (runF 7 n_solved_masks)
def c_solved_masks : List D → List O → R D := Den.apart c0_solved_masks
theorem sc_solved_masks : FnScope ["masks", "asked", "kept", "empty", "pick", "head", "_"] ["masks", "asked"] (defScope (topS 19)) := ⟨rfl, rfl, rfl, by decide +kernel, rfl, by decide +kernel, by decide +kernel⟩
theorem b_solved_masks (M : MG T mg) (C_put_apart : CalG T P w mg base false 2 12 c_put_apart) (C_ones : CalG T P w mg base false 1 10 c_ones) (cdv : Value) (A : Around) (outer : List Env) (s : Shared) (H : Hp) (E : XK) (hr : Room 2 (A.deeper (envOfC "solved_masks" (defScope (topS 19)) s.heap.objs.size (T.fad 13) cdv))) :
    SSs T (cxOf (L2.CX P w) P w T.K mg base ["masks", "asked", "kept", "empty", "pick", "head", "_"] "solved_masks" (defScope (topS 19)) (T.fad 13) cdv A outer s H E) (WF E) (defBody (topS 19)) n_solved_masks := by
  have nd := sc_solved_masks.nd
  have he : Here (cxOf (L2.CX P w) P w T.K mg base ["masks", "asked", "kept", "empty", "pick", "head", "_"] "solved_masks" (defScope (topS 19)) (T.fad 13) cdv A outer s H E) (WF E) false 2 := here_fn hr
  exact (sss_cons (ss_asg (se_fnCall (calX (C_put_apart.mono (by decide))) he rfl M.f_put_apart (sa_cons (se_var (i := 0) rfl (by first | exact Or.inl rfl | exact Or.inr (Or.inl rfl) | exact Or.inr (Or.inr rfl))) sa_nil)) (sg_tupA rfl rfl (sgs_cons (sg_name (i := 2) nd rfl (by first | exact Or.inl rfl | exact Or.inr rfl) (by first | exact Or.inl rfl | exact Or.inr rfl)) (sgs_cons (sg_name (i := 3) nd rfl (by first | exact Or.inl rfl | exact Or.inr rfl) (by first | exact Or.inl rfl | exact Or.inr rfl)) sgs_nil)) rfl rfl))
    (sss_cons (ss_for pas_fn rfl (sj_seqA rfl (se_var (i := 3) rfl (by first | exact Or.inl rfl | exact Or.inr (Or.inl rfl) | exact Or.inr (Or.inr rfl)))) (sg_name (i := 4) nd rfl (by first | exact Or.inl rfl | exact Or.inr rfl) (by first | exact Or.inl rfl | exact Or.inr rfl)) ((sss_cons (ss_if (st_tru rfl (se_op od_and (se_fnCall (calX (C_ones.mono (by decide))) he rfl M.f_ones (sa_cons (se_op od_and (se_var (i := 4) rfl (by first | exact Or.inl rfl | exact Or.inr (Or.inl rfl) | exact Or.inr (Or.inr rfl))) (se_var (i := 1) rfl (by first | exact Or.inl rfl | exact Or.inr (Or.inl rfl) | exact Or.inr (Or.inr rfl)))) sa_nil)) se_int)) ((sss_cons (ss_ret (se_tup (sa_cons se_str (sa_cons (se_var (i := 4) rfl (by first | exact Or.inl rfl | exact Or.inr (Or.inl rfl) | exact Or.inr (Or.inr rfl))) sa_nil))))
    sss_nil)) (sss_nil))
    sss_nil)))
    (sss_cons (ss_ret (se_tup (sa_cons se_str (sa_cons (se_callB (bd_sum rfl rfl) rfl M.b_sum bt_sum (sa_cons (se_lc (own := [("head", 5), ("_", 6), ("pick", 4)]) rfl nd (sj_seqA rfl (se_var (i := 2) rfl (by first | exact Or.inl rfl | exact Or.inr (Or.inl rfl) | exact Or.inr (Or.inr rfl)))) (blkOk_by (N := ["masks", "asked", "kept", "empty", "pick", "head", "_"]) (sc := defScope (topS 19)) (by decide +kernel)) (by decide) (fun _ _ _ _ _ => (sg_tupA rfl rfl (sgs_cons (sg_name (i := 5) nd rfl (by first | exact Or.inl rfl | exact Or.inr rfl) (by first | exact Or.inl rfl | exact Or.inr rfl)) (sgs_cons (sg_name (i := 6) nd rfl (by first | exact Or.inl rfl | exact Or.inr rfl) (by first | exact Or.inl rfl | exact Or.inr rfl)) (sgs_cons (sg_name (i := 4) nd rfl (by first | exact Or.inl rfl | exact Or.inr rfl) (by first | exact Or.inl rfl | exact Or.inr rfl)) sgs_nil))) rfl rfl)) (fun _ _ _ _ _ => have he := here_blk he; (spt_one (st_tru rfl (se_op od_and (se_fnCall (calX (C_ones.mono (by decide))) he rfl M.f_ones (sa_cons (se_op od_and (se_var (i := 4) rfl (by first | exact Or.inl rfl | exact Or.inr (Or.inl rfl) | exact Or.inr (Or.inr rfl))) (se_var (i := 1) rfl (by first | exact Or.inl rfl | exact Or.inr (Or.inl rfl) | exact Or.inr (Or.inr rfl)))) sa_nil)) se_int)))) (fun _ _ _ _ _ => (se_var (i := 5) rfl (by first | exact Or.inl rfl | exact Or.inr (Or.inl rfl) | exact Or.inr (Or.inr rfl))))) sa_nil)) sa_nil))))
    sss_nil)))

theorem k_solved_masks (M : MG T mg) (D0 : DefAt T "solved_masks" "solved_masks" (topS 19) 13 ["masks", "asked"]) (C_put_apart : CalG T P w mg base false 2 12 c_put_apart) (C_ones : CalG T P w mg base false 1 10 c_ones)  : CalG T P w mg base false 3 13 c_solved_masks :=
  (cal_of D0 sc_solved_masks fun cdv A outer s H E _ hr => b_solved_masks M C_put_apart C_ones cdv A outer s H E hr).apart

/-! pairs_of -/
def n_pairs_of : DS := (sSeq (sRet (dLc2 [1, 2] [2] (jSeqA (dVar 0)) (gNm 1) dYes (jSeqA (dVar 0)) (gNm 2) (dTest (dOp oLt (dVar 1) (dVar 2))) (dTup (dCons (dVar 1) (dCons (dVar 2) dNil))))) sPass)
def c0_pairs_of : List D → List O → R D := ar 1 (runF 3 n_pairs_of)
def c_pairs_of : List D → List O → R D := Den.apart c0_pairs_of
theorem sc_pairs_of : FnScope ["things", "low", "high"] ["things"] (defScope (topS 21)) := ⟨rfl, rfl, rfl, by decide +kernel, rfl, by decide +kernel, by decide +kernel⟩
theorem b_pairs_of (M : MG T mg)  (cdv : Value) (A : Around) (outer : List Env) (s : Shared) (H : Hp) (E : XK) (hr : Room 0 (A.deeper (envOfC "pairs_of" (defScope (topS 21)) s.heap.objs.size (T.fad 14) cdv))) :
    SSs T (cxOf (L2.CX P w) P w T.K mg base ["things", "low", "high"] "pairs_of" (defScope (topS 21)) (T.fad 14) cdv A outer s H E) (WF E) (defBody (topS 21)) n_pairs_of := by
  have nd := sc_pairs_of.nd
  have he : Here (cxOf (L2.CX P w) P w T.K mg base ["things", "low", "high"] "pairs_of" (defScope (topS 21)) (T.fad 14) cdv A outer s H E) (WF E) false 0 := here_fn hr
  exact (sss_cons (ss_ret (se_lc2 (own := [("low", 1), ("high", 2)]) (vs1 := [2]) rfl nd (sj_seqA rfl (se_var (i := 0) rfl (by first | exact Or.inl rfl | exact Or.inr (Or.inl rfl) | exact Or.inr (Or.inr rfl)))) (blkOk_by (N := ["things", "low", "high"]) (sc := defScope (topS 21)) (by decide +kernel)) (by decide) (by decide) (by decide) (fun _ _ _ _ _ => (sg_name (i := 1) nd rfl (by first | exact Or.inl rfl | exact Or.inr rfl) (by first | exact Or.inl rfl | exact Or.inr rfl))) (fun _ _ _ _ _ => spt_nil) (fun _ _ _ _ _ => (sj_seqA rfl (se_var (i := 0) rfl (by first | exact Or.inl rfl | exact Or.inr (Or.inl rfl) | exact Or.inr (Or.inr rfl))))) (fun _ _ _ _ _ => (sg_name (i := 2) nd rfl (by first | exact Or.inl rfl | exact Or.inr rfl) (by first | exact Or.inl rfl | exact Or.inr rfl))) (fun _ _ _ _ _ => (spt_one (st_cmp od_lt (se_var (i := 1) rfl (by first | exact Or.inl rfl | exact Or.inr (Or.inl rfl) | exact Or.inr (Or.inr rfl))) (se_var (i := 2) rfl (by first | exact Or.inl rfl | exact Or.inr (Or.inl rfl) | exact Or.inr (Or.inr rfl))) (nomark _)))) (fun _ _ _ _ _ => (se_tup (sa_cons (se_var (i := 1) rfl (by first | exact Or.inl rfl | exact Or.inr (Or.inl rfl) | exact Or.inr (Or.inr rfl))) (sa_cons (se_var (i := 2) rfl (by first | exact Or.inl rfl | exact Or.inr (Or.inl rfl) | exact Or.inr (Or.inr rfl))) sa_nil))))))
    sss_nil)

theorem k_pairs_of (M : MG T mg) (D0 : DefAt T "pairs_of" "pairs_of" (topS 21) 14 ["things"])   : CalG T P w mg base false 1 14 c_pairs_of :=
  (cal_of D0 sc_pairs_of fun cdv A outer s H E _ hr => b_pairs_of M  cdv A outer s H E hr).apart

/-! pairs_below -/
def n_pairs_below : DS := (sSeq (sRet (dFn c_pairs_of (dCons (dRg kRgL [(dVar 0)]) dNil))) sPass)
def c0_pairs_below : List D → List O → R D := ar 1 (runF 1 n_pairs_below)
def c_pairs_below : List D → List O → R D := Den.apart c0_pairs_below
theorem sc_pairs_below : FnScope ["many"] ["many"] (defScope (topS 22)) := ⟨rfl, rfl, rfl, by decide +kernel, rfl, by decide +kernel, by decide +kernel⟩
theorem b_pairs_below (M : MG T mg) (C_pairs_of : CalG T P w mg base false 1 14 c_pairs_of) (cdv : Value) (A : Around) (outer : List Env) (s : Shared) (H : Hp) (E : XK) (hr : Room 1 (A.deeper (envOfC "pairs_below" (defScope (topS 22)) s.heap.objs.size (T.fad 15) cdv))) :
    SSs T (cxOf (L2.CX P w) P w T.K mg base ["many"] "pairs_below" (defScope (topS 22)) (T.fad 15) cdv A outer s H E) (WF E) (defBody (topS 22)) n_pairs_below := by
  have nd := sc_pairs_below.nd
  have he : Here (cxOf (L2.CX P w) P w T.K mg base ["many"] "pairs_below" (defScope (topS 22)) (T.fad 15) cdv A outer s H E) (WF E) false 1 := here_fn hr
  exact (sss_cons (ss_ret (se_fnCall (calX (C_pairs_of.mono (by decide))) he rfl M.f_pairs_of (sa_cons (se_listRg1 rfl rfl M.b_list rfl M.b_range (se_var (i := 0) rfl (by first | exact Or.inl rfl | exact Or.inr (Or.inl rfl) | exact Or.inr (Or.inr rfl)))) sa_nil)))
    sss_nil)

theorem k_pairs_below (M : MG T mg) (D0 : DefAt T "pairs_below" "pairs_below" (topS 22) 15 ["many"]) (C_pairs_of : CalG T P w mg base false 1 14 c_pairs_of)  : CalG T P w mg base false 2 15 c_pairs_below :=
  (cal_of D0 sc_pairs_below fun cdv A outer s H E _ hr => b_pairs_below M C_pairs_of cdv A outer s H E hr).apart

/-! is_operator -/
def n_is_operator : DS := (sSeq (sIf (dOrT (dNotT (dTru (dCall bIsi (dCons (dVar 0) (dCons (dC (.ty "str")) dNil))))) (dNotT (dTest (dChain oLe oLe (dC (.int 2)) (dCall bLen (dCons (dVar 0) dNil)) (dOp oAdd (dC (.int 12)) (dC (.int 1))))))) (sSeq (sRet (dC (.bl false))) sPass) sPass) (sSeq (sRet (dAnd (dOp oInA (dIxA (dVar 0) (dC (.int 0))) (dTup (dCons (dC (.str "+")) (dCons (dC (.str "-")) dNil)))) (dCall bAllT (dCons (dLc [1] (jSeqA (dSlA (dVar 0) (dSo (dC (.int 1))) dNo)) (gNm 1) dYes (dOp oInA (dVar 1) (dC (.tup [.str "I", .str "X", .str "Z", .str "Y"])))) dNil)))) sPass))
def c0_is_operator : List D → List O → R D := ar 1 (runF 2 n_is_operator)
def c_is_operator : List D → List O → R D := Den.apart c0_is_operator
theorem sc_is_operator : FnScope ["value", "letter"] ["value"] (defScope (topS 28)) := ⟨rfl, rfl, rfl, by decide +kernel, rfl, by decide +kernel, by decide +kernel⟩
theorem b_is_operator (M : MG T mg)  (cdv : Value) (A : Around) (outer : List Env) (s : Shared) (H : Hp) (E : XK) (hr : Room 0 (A.deeper (envOfC "is_operator" (defScope (topS 28)) s.heap.objs.size (T.fad 16) cdv))) :
    SSs T (cxOf (L2.CX P w) P w T.K mg base ["value", "letter"] "is_operator" (defScope (topS 28)) (T.fad 16) cdv A outer s H E) (WF E) (defBody (topS 28)) n_is_operator := by
  obtain ⟨t_MOST_LETTERS, e_MOST_LETTERS⟩ := M.i_MOST_LETTERS
  obtain ⟨a_LETTERS_BY_BITS, g_LETTERS_BY_BITS, h_LETTERS_BY_BITS⟩ := M.t_LETTERS_BY_BITS
  have nd := sc_is_operator.nd
  have he : Here (cxOf (L2.CX P w) P w T.K mg base ["value", "letter"] "is_operator" (defScope (topS 28)) (T.fad 16) cdv A outer s H E) (WF E) false 0 := here_fn hr
  exact (sss_cons (ss_if (SW.st (sw_or (st_not (st_tru rfl (se_callB (bd_isi rfl) rfl M.b_isinstance bt_isinstance (sa_cons (se_var (i := 0) rfl (by first | exact Or.inl rfl | exact Or.inr (Or.inl rfl) | exact Or.inr (Or.inr rfl))) (sa_cons (se_ty rfl M.b_str bt_str) sa_nil))))) (sw_or1 (st_not (st_chain od_le od_le se_int (se_callB (bd_len rfl) rfl M.b_len bt_len (sa_cons (se_var (i := 0) rfl (by first | exact Or.inl rfl | exact Or.inr (Or.inl rfl) | exact Or.inr (Or.inr rfl))) sa_nil)) (se_op (od_add rfl) (se_gint rfl e_MOST_LETTERS) se_int) rfl))))) ((sss_cons (ss_ret se_bl)
    sss_nil)) (sss_nil))
    (sss_cons (ss_ret (se_and (se_cmp (od_inA rfl) (se_ixA rfl (se_var (i := 0) rfl (by first | exact Or.inl rfl | exact Or.inr (Or.inl rfl) | exact Or.inr (Or.inr rfl))) se_int (fun _ _ => rfl)) (se_tup (sa_cons se_str (sa_cons se_str sa_nil))) rfl) (se_one (se_callB (bd_allT rfl rfl) rfl M.b_all bt_all (sa_cons (se_lc (own := [("letter", 1)]) rfl nd (sj_seqA rfl (se_slA rfl (se_var (i := 0) rfl (by first | exact Or.inl rfl | exact Or.inr (Or.inl rfl) | exact Or.inr (Or.inr rfl))) (so_some se_int) so_none)) (blkOk_by (N := ["value", "letter"]) (sc := defScope (topS 28)) (by decide +kernel)) (by decide) (fun _ _ _ _ _ => (sg_name (i := 1) nd rfl (by first | exact Or.inl rfl | exact Or.inr rfl) (by first | exact Or.inl rfl | exact Or.inr rfl))) (fun _ _ _ _ _ => spt_nil) (fun _ _ _ _ _ => (se_cmp (od_inA rfl) (se_var (i := 1) rfl (by first | exact Or.inl rfl | exact Or.inr (Or.inl rfl) | exact Or.inr (Or.inr rfl))) (se_gtup rfl g_LETTERS_BY_BITS h_LETTERS_BY_BITS (fun _ _ => (.cons (.str _) (.cons (.str _) (.cons (.str _) (.cons (.str _) .nil)))))) rfl))) sa_nil)))))
    sss_nil))

theorem k_is_operator (M : MG T mg) (D0 : DefAt T "is_operator" "is_operator" (topS 28) 16 ["value"])   : CalG T P w mg base false 1 16 c_is_operator :=
  (cal_of D0 sc_is_operator fun cdv A outer s H E _ hr => b_is_operator M  cdv A outer s H E hr).apart

/-! are_operators -/
def n_are_operators : DS := (sSeq (sIf (dOrT (dNotT (dTru (dFn c_has_size (dCons (dVar 0) (dCons (dVar 1) (dCons (dVar 2) dNil)))))) (dNotT (dTru (dCall bAllT (dCons (dLc [3] (jSeqA (dVar 0)) (gNm 3) dYes (dFn c_is_operator (dCons (dVar 3) dNil))) dNil))))) (sSeq (sRet (dC (.bl false))) sPass) sPass) (sSeq (sRet (dCall bAllT (dCons (dLc [3] (jSeqA (dVar 0)) (gNm 3) dYes (dOp oEq (dCall bLen (dCons (dVar 3) dNil)) (dCall bLen (dCons (dIxA (dVar 0) (dC (.int 0))) dNil)))) dNil))) sPass))
def c0_are_operators : List D → List O → R D := ar 3 (runF 4 n_are_operators)
def c_are_operators : List D → List O → R D := Den.apart c0_are_operators
theorem sc_are_operators : FnScope ["value", "least", "most", "operator"] ["value", "least", "most"] (defScope (topS 29)) := ⟨rfl, rfl, rfl, by decide +kernel, rfl, by decide +kernel, by decide +kernel⟩
theorem b_are_operators (M : MG T mg) (C_has_size : CalG T P w mg base false 1 2 c_has_size) (C_is_operator : CalG T P w mg base false 1 16 c_is_operator) (cdv : Value) (A : Around) (outer : List Env) (s : Shared) (H : Hp) (E : XK) (hr : Room 1 (A.deeper (envOfC "are_operators" (defScope (topS 29)) s.heap.objs.size (T.fad 17) cdv))) :
    SSs T (cxOf (L2.CX P w) P w T.K mg base ["value", "least", "most", "operator"] "are_operators" (defScope (topS 29)) (T.fad 17) cdv A outer s H E) (WF E) (defBody (topS 29)) n_are_operators := by
  have nd := sc_are_operators.nd
  have he : Here (cxOf (L2.CX P w) P w T.K mg base ["value", "least", "most", "operator"] "are_operators" (defScope (topS 29)) (T.fad 17) cdv A outer s H E) (WF E) false 1 := here_fn hr
  exact (sss_cons (ss_if (SW.st (sw_or (st_not (st_tru rfl (se_fnCall (calX (C_has_size.mono (by decide))) he rfl M.f_has_size (sa_cons (se_var (i := 0) rfl (by first | exact Or.inl rfl | exact Or.inr (Or.inl rfl) | exact Or.inr (Or.inr rfl))) (sa_cons (se_var (i := 1) rfl (by first | exact Or.inl rfl | exact Or.inr (Or.inl rfl) | exact Or.inr (Or.inr rfl))) (sa_cons (se_var (i := 2) rfl (by first | exact Or.inl rfl | exact Or.inr (Or.inl rfl) | exact Or.inr (Or.inr rfl))) sa_nil)))))) (sw_or1 (st_not (st_tru rfl (se_callB (bd_allT rfl rfl) rfl M.b_all bt_all (sa_cons (se_lc (own := [("operator", 3)]) rfl nd (sj_seqA rfl (se_var (i := 0) rfl (by first | exact Or.inl rfl | exact Or.inr (Or.inl rfl) | exact Or.inr (Or.inr rfl)))) (blkOk_by (N := ["value", "least", "most", "operator"]) (sc := defScope (topS 29)) (by decide +kernel)) (by decide) (fun _ _ _ _ _ => (sg_name (i := 3) nd rfl (by first | exact Or.inl rfl | exact Or.inr rfl) (by first | exact Or.inl rfl | exact Or.inr rfl))) (fun _ _ _ _ _ => spt_nil) (fun _ _ _ _ _ => have he := here_blk he; (se_fnCall (calX (C_is_operator.mono (by decide))) he rfl M.f_is_operator (sa_cons (se_var (i := 3) rfl (by first | exact Or.inl rfl | exact Or.inr (Or.inl rfl) | exact Or.inr (Or.inr rfl))) sa_nil)))) sa_nil))))))) ((sss_cons (ss_ret se_bl)
    sss_nil)) (sss_nil))
    (sss_cons (ss_ret (se_callB (bd_allT rfl rfl) rfl M.b_all bt_all (sa_cons (se_lc (own := [("operator", 3)]) rfl nd (sj_seqA rfl (se_var (i := 0) rfl (by first | exact Or.inl rfl | exact Or.inr (Or.inl rfl) | exact Or.inr (Or.inr rfl)))) (blkOk_by (N := ["value", "least", "most", "operator"]) (sc := defScope (topS 29)) (by decide +kernel)) (by decide) (fun _ _ _ _ _ => (sg_name (i := 3) nd rfl (by first | exact Or.inl rfl | exact Or.inr rfl) (by first | exact Or.inl rfl | exact Or.inr rfl))) (fun _ _ _ _ _ => spt_nil) (fun _ _ _ _ _ => (se_cmp (od_eq rfl hr.units) (se_callB (bd_len rfl) rfl M.b_len bt_len (sa_cons (se_var (i := 3) rfl (by first | exact Or.inl rfl | exact Or.inr (Or.inl rfl) | exact Or.inr (Or.inr rfl))) sa_nil)) (se_callB (bd_len rfl) rfl M.b_len bt_len (sa_cons (se_ixA rfl (se_var (i := 0) rfl (by first | exact Or.inl rfl | exact Or.inr (Or.inl rfl) | exact Or.inr (Or.inr rfl))) se_int (fun _ _ => rfl)) sa_nil)) (nomark _)))) sa_nil)))
    sss_nil))

theorem k_are_operators (M : MG T mg) (D0 : DefAt T "are_operators" "are_operators" (topS 29) 17 ["value", "least", "most"]) (C_has_size : CalG T P w mg base false 1 2 c_has_size) (C_is_operator : CalG T P w mg base false 1 16 c_is_operator)  : CalG T P w mg base false 2 17 c_are_operators :=
  (cal_of D0 sc_are_operators fun cdv A outer s H E _ hr => b_are_operators M C_has_size C_is_operator cdv A outer s H E hr).apart

/-! check_operators -/
def n_check_operators : DS := (sSeq (sFor (jSeqA (dVar 0)) (gNm 1) (sSeq (sIf (dNotT (dTru (dFn c_is_operator (dCons (dVar 1) dNil)))) (sSeq (sRaise 1) sPass) sPass) sPass)) (sSeq (sIf (dTru (dCall bAnyT (dCons (dLc [1] (jSeqA (dVar 0)) (gNm 1) dYes (dOp oNe (dCall bLen (dCons (dVar 1) dNil)) (dCall bLen (dCons (dIxA (dVar 0) (dC (.int 0))) dNil)))) dNil))) (sSeq (sRaise 2) sPass) sPass) sPass))
def c0_check_operators : List D → List O → R D := packA (runF 2 n_check_operators)
def c_check_operators : List D → List O → R D := Den.apart c0_check_operators
theorem sc_check_operators : FnScope ["values", "value"] ["values"] (defScope (topS 30)) := ⟨rfl, rfl, rfl, by decide +kernel, rfl, by decide +kernel, by decide +kernel⟩
theorem b_check_operators (M : MG T mg) (C_is_operator : CalG T P w mg base false 1 16 c_is_operator) (cdv : Value) (A : Around) (outer : List Env) (s : Shared) (H : Hp) (E : XK) (hr : Room 1 (A.deeper (envOfC "check_operators" (defScope (topS 30)) s.heap.objs.size (T.fad 18) cdv))) :
    SSs T (cxOf (L2.CX P w) P w T.K mg base ["values", "value"] "check_operators" (defScope (topS 30)) (T.fad 18) cdv A outer s H E) (WF E) (defBody (topS 30)) n_check_operators := by
  have nd := sc_check_operators.nd
  have he : Here (cxOf (L2.CX P w) P w T.K mg base ["values", "value"] "check_operators" (defScope (topS 30)) (T.fad 18) cdv A outer s H E) (WF E) false 1 := here_fn hr
  exact (sss_cons (ss_for pas_fn rfl (sj_seqA rfl (se_var (i := 0) rfl (by first | exact Or.inl rfl | exact Or.inr (Or.inl rfl) | exact Or.inr (Or.inr rfl)))) (sg_name (i := 1) nd rfl (by first | exact Or.inl rfl | exact Or.inr rfl) (by first | exact Or.inl rfl | exact Or.inr rfl)) ((sss_cons (ss_if (st_not (st_tru rfl (se_fnCall (calX (C_is_operator.mono (by decide))) he rfl M.f_is_operator (sa_cons (se_var (i := 1) rfl (by first | exact Or.inl rfl | exact Or.inr (Or.inl rfl) | exact Or.inr (Or.inr rfl))) sa_nil)))) ((sss_cons (ss_raise rfl he.tk (pmk_own PySem.F.excBase_ValueError M.xe_InvalidOperator M.c_InvalidOperator M.xk_InvalidOperator (raises_own M.xs_InvalidOperator M.xt_InvalidOperator) rfl))
    sss_nil)) (sss_nil))
    sss_nil)))
    (sss_cons (ss_if (st_tru rfl (se_callB (bd_anyT rfl rfl) rfl M.b_any bt_any (sa_cons (se_lc (own := [("value", 1)]) rfl nd (sj_seqA rfl (se_var (i := 0) rfl (by first | exact Or.inl rfl | exact Or.inr (Or.inl rfl) | exact Or.inr (Or.inr rfl)))) (blkOk_by (N := ["values", "value"]) (sc := defScope (topS 30)) (by decide +kernel)) (by decide) (fun _ _ _ _ _ => (sg_name (i := 1) nd rfl (by first | exact Or.inl rfl | exact Or.inr rfl) (by first | exact Or.inl rfl | exact Or.inr rfl))) (fun _ _ _ _ _ => spt_nil) (fun _ _ _ _ _ => (se_cmp (od_ne rfl hr.units) (se_callB (bd_len rfl) rfl M.b_len bt_len (sa_cons (se_var (i := 1) rfl (by first | exact Or.inl rfl | exact Or.inr (Or.inl rfl) | exact Or.inr (Or.inr rfl))) sa_nil)) (se_callB (bd_len rfl) rfl M.b_len bt_len (sa_cons (se_ixA rfl (se_var (i := 0) rfl (by first | exact Or.inl rfl | exact Or.inr (Or.inl rfl) | exact Or.inr (Or.inr rfl))) se_int (fun _ _ => rfl)) sa_nil)) (nomark _)))) sa_nil))) ((sss_cons (ss_raise rfl he.tk (pmk_own PySem.F.excBase_ValueError M.xe_InvalidOperation M.c_InvalidOperation M.xk_InvalidOperation (raises_own M.xs_InvalidOperation M.xt_InvalidOperation) rfl))
    sss_nil)) (sss_nil))
    sss_nil))

theorem k_check_operators (M : MG T mg) (D0 : ∃ fd, Fun T.K "check_operators" "check_operators" (topS 30) (T.fad 18) fd) (C_is_operator : CalG T P w mg base false 1 16 c_is_operator) : CalV T P w mg base 2 18 c_check_operators :=
  (calV_of D0 sc_check_operators (fun kV doc pm cdv ct an us rest hl => by cases us with
    | nil => cases rest <;> rfl
    | cons _ _ => cases hl) fun cdv A outer s H E hr => b_check_operators M C_is_operator cdv A outer s H E hr).apart

/-! check_row -/
def n_check_row : DS := (sSeq (sIf (dNotT (dTru (dFn c_are_operators (dCons (dVar 0) (dCons (dC (.int 1)) (dCons (dC (.int 24)) dNil)))))) (sSeq (sRaise 1) sPass) sPass) sPass)
def c0_check_row : List D → List O → R D := ar 1 (runF 1 n_check_row)
def c_check_row : List D → List O → R D := Den.apart c0_check_row
theorem sc_check_row : FnScope ["value"] ["value"] (defScope (topS 31)) := ⟨rfl, rfl, rfl, by decide +kernel, rfl, by decide +kernel, by decide +kernel⟩
theorem b_check_row (M : MG T mg) (C_are_operators : CalG T P w mg base false 2 17 c_are_operators) (cdv : Value) (A : Around) (outer : List Env) (s : Shared) (H : Hp) (E : XK) (hr : Room 2 (A.deeper (envOfC "check_row" (defScope (topS 31)) s.heap.objs.size (T.fad 19) cdv))) :
    SSs T (cxOf (L2.CX P w) P w T.K mg base ["value"] "check_row" (defScope (topS 31)) (T.fad 19) cdv A outer s H E) (WF E) (defBody (topS 31)) n_check_row := by
  obtain ⟨t_MOST_OPERATORS, e_MOST_OPERATORS⟩ := M.i_MOST_OPERATORS
  have nd := sc_check_row.nd
  have he : Here (cxOf (L2.CX P w) P w T.K mg base ["value"] "check_row" (defScope (topS 31)) (T.fad 19) cdv A outer s H E) (WF E) false 2 := here_fn hr
  exact (sss_cons (ss_if (st_not (st_tru rfl (se_fnCall (calX (C_are_operators.mono (by decide))) he rfl M.f_are_operators (sa_cons (se_var (i := 0) rfl (by first | exact Or.inl rfl | exact Or.inr (Or.inl rfl) | exact Or.inr (Or.inr rfl))) (sa_cons se_int (sa_cons (se_gint rfl e_MOST_OPERATORS) sa_nil)))))) ((sss_cons (ss_raise rfl he.tk (pmk_own PySem.F.excBase_ValueError M.xe_InvalidOperator M.c_InvalidOperator M.xk_InvalidOperator (raises_own M.xs_InvalidOperator M.xt_InvalidOperator) rfl))
    sss_nil)) (sss_nil))
    sss_nil)

theorem k_check_row (M : MG T mg) (D0 : DefAt T "check_row" "check_row" (topS 31) 19 ["value"]) (C_are_operators : CalG T P w mg base false 2 17 c_are_operators)  : CalG T P w mg base false 3 19 c_check_row :=
  (cal_of D0 sc_check_row fun cdv A outer s H E _ hr => b_check_row M C_are_operators cdv A outer s H E hr).apart

/-! check_rows -/
def n_check_rows : DS := (sSeq (sExpr (dFn c_check_row (dCons (dVar 0) dNil))) (sSeq (sExpr (dFn c_check_row (dCons (dVar 1) dNil))) (sSeq (sIf (dOrT (dTest (dOp oNe (dCall bLen (dCons (dIxA (dVar 0) (dC (.int 0))) dNil)) (dCall bLen (dCons (dIxA (dVar 1) (dC (.int 0))) dNil)))) (dTest (dOp oNe (dCall bLen (dCons (dVar 0) dNil)) (dCall bLen (dCons (dVar 1) dNil))))) (sSeq (sRaise 2) sPass) sPass) sPass)))
def c0_check_rows : List D → List O → R D := ar 2 (runF 2 n_check_rows)
def c_check_rows : List D → List O → R D := Den.apart c0_check_rows
theorem sc_check_rows : FnScope ["row", "others"] ["row", "others"] (defScope (topS 32)) := ⟨rfl, rfl, rfl, by decide +kernel, rfl, by decide +kernel, by decide +kernel⟩
theorem b_check_rows (M : MG T mg) (C_check_row : CalG T P w mg base false 3 19 c_check_row) (cdv : Value) (A : Around) (outer : List Env) (s : Shared) (H : Hp) (E : XK) (hr : Room 3 (A.deeper (envOfC "check_rows" (defScope (topS 32)) s.heap.objs.size (T.fad 20) cdv))) :
    SSs T (cxOf (L2.CX P w) P w T.K mg base ["row", "others"] "check_rows" (defScope (topS 32)) (T.fad 20) cdv A outer s H E) (WF E) (defBody (topS 32)) n_check_rows := by
  have nd := sc_check_rows.nd
  have he : Here (cxOf (L2.CX P w) P w T.K mg base ["row", "others"] "check_rows" (defScope (topS 32)) (T.fad 20) cdv A outer s H E) (WF E) false 3 := here_fn hr
  exact (sss_cons (ss_expr (se_fnCall (calX (C_check_row.mono (by decide))) he rfl M.f_check_row (sa_cons (se_var (i := 0) rfl (by first | exact Or.inl rfl | exact Or.inr (Or.inl rfl) | exact Or.inr (Or.inr rfl))) sa_nil)))
    (sss_cons (ss_expr (se_fnCall (calX (C_check_row.mono (by decide))) he rfl M.f_check_row (sa_cons (se_var (i := 1) rfl (by first | exact Or.inl rfl | exact Or.inr (Or.inl rfl) | exact Or.inr (Or.inr rfl))) sa_nil)))
    (sss_cons (ss_if (SW.st (sw_or (st_cmp (od_ne rfl hr.units) (se_callB (bd_len rfl) rfl M.b_len bt_len (sa_cons (se_ixA rfl (se_var (i := 0) rfl (by first | exact Or.inl rfl | exact Or.inr (Or.inl rfl) | exact Or.inr (Or.inr rfl))) se_int (fun _ _ => rfl)) sa_nil)) (se_callB (bd_len rfl) rfl M.b_len bt_len (sa_cons (se_ixA rfl (se_var (i := 1) rfl (by first | exact Or.inl rfl | exact Or.inr (Or.inl rfl) | exact Or.inr (Or.inr rfl))) se_int (fun _ _ => rfl)) sa_nil)) (nomark _)) (sw_or1 (st_cmp (od_ne rfl hr.units) (se_callB (bd_len rfl) rfl M.b_len bt_len (sa_cons (se_var (i := 0) rfl (by first | exact Or.inl rfl | exact Or.inr (Or.inl rfl) | exact Or.inr (Or.inr rfl))) sa_nil)) (se_callB (bd_len rfl) rfl M.b_len bt_len (sa_cons (se_var (i := 1) rfl (by first | exact Or.inl rfl | exact Or.inr (Or.inl rfl) | exact Or.inr (Or.inr rfl))) sa_nil)) (nomark _))))) ((sss_cons (ss_raise rfl he.tk (pmk_own PySem.F.excBase_ValueError M.xe_InvalidOperation M.c_InvalidOperation M.xk_InvalidOperation (raises_own M.xs_InvalidOperation M.xt_InvalidOperation) rfl))
    sss_nil)) (sss_nil))
    sss_nil)))

theorem k_check_rows (M : MG T mg) (D0 : DefAt T "check_rows" "check_rows" (topS 32) 20 ["row", "others"]) (C_check_row : CalG T P w mg base false 3 19 c_check_row)  : CalG T P w mg base false 4 20 c_check_rows :=
  (cal_of D0 sc_check_rows fun cdv A outer s H E _ hr => b_check_rows M C_check_row cdv A outer s H E hr).apart

/-! letter_bits -/
def n_letter_bits : DS := (sSeq (sAsg (dLc [2] (jSeqA (dSlA (dVar 0) (dSo (dC (.int 1))) dNo)) (gNm 2) dYes (dGIdx ["I", "X", "Z", "Y"] (dCons (dVar 2) dNil))) (gNm 1)) (sSeq (sRet (dTup (dCons (dCall bTup (dCons (dLc [3] (jSeqA (dVar 1)) (gNm 3) dYes (dOp oAnd (dVar 3) (dC (.int 1)))) dNil)) (dCons (dCall bTup (dCons (dLc [3] (jSeqA (dVar 1)) (gNm 3) dYes (dOp oShr (dVar 3) (dC (.int 1)))) dNil)) dNil)))) sPass))
def c0_letter_bits : List D → List O → R D := ar 1 (runF 4 n_letter_bits)
def c_letter_bits : List D → List O → R D := Den.apart c0_letter_bits
theorem sc_letter_bits : FnScope ["operator", "places", "letter", "place"] ["operator"] (defScope (topS 33)) := ⟨rfl, rfl, rfl, by decide +kernel, rfl, by decide +kernel, by decide +kernel⟩
theorem b_letter_bits (M : MG T mg)  (cdv : Value) (A : Around) (outer : List Env) (s : Shared) (H : Hp) (E : XK) (hr : Room 0 (A.deeper (envOfC "letter_bits" (defScope (topS 33)) s.heap.objs.size (T.fad 21) cdv))) :
    SSs T (cxOf (L2.CX P w) P w T.K mg base ["operator", "places", "letter", "place"] "letter_bits" (defScope (topS 33)) (T.fad 21) cdv A outer s H E) (WF E) (defBody (topS 33)) n_letter_bits := by
  obtain ⟨a_LETTERS_BY_BITS, g_LETTERS_BY_BITS, h_LETTERS_BY_BITS⟩ := M.t_LETTERS_BY_BITS
  have nd := sc_letter_bits.nd
  have he : Here (cxOf (L2.CX P w) P w T.K mg base ["operator", "places", "letter", "place"] "letter_bits" (defScope (topS 33)) (T.fad 21) cdv A outer s H E) (WF E) false 0 := here_fn hr
  exact (sss_cons (by first | exact ss_setLc (own := [("letter", 2)]) (i := 1) rfl nd rfl rfl rfl (sj_seqA rfl (se_slA rfl (se_var (i := 0) rfl (by first | exact Or.inl rfl | exact Or.inr (Or.inl rfl) | exact Or.inr (Or.inr rfl))) (so_some se_int) so_none)) (blkOk_by (N := ["operator", "places", "letter", "place"]) (sc := defScope (topS 33)) (by decide +kernel)) (by decide) (fun _ _ _ _ _ => (sg_name (i := 2) nd rfl (by first | exact Or.inl rfl | exact Or.inr rfl) (by first | exact Or.inl rfl | exact Or.inr rfl))) (fun _ _ _ _ _ => spt_nil) (fun _ _ _ _ _ => (se_gidx rfl rfl g_LETTERS_BY_BITS h_LETTERS_BY_BITS (sa_cons (se_var (i := 2) rfl (by first | exact Or.inl rfl | exact Or.inr (Or.inl rfl) | exact Or.inr (Or.inr rfl))) sa_nil))) | exact ss_asg (se_lc (own := [("letter", 2)]) rfl nd (sj_seqA rfl (se_slA rfl (se_var (i := 0) rfl (by first | exact Or.inl rfl | exact Or.inr (Or.inl rfl) | exact Or.inr (Or.inr rfl))) (so_some se_int) so_none)) (blkOk_by (N := ["operator", "places", "letter", "place"]) (sc := defScope (topS 33)) (by decide +kernel)) (by decide) (fun _ _ _ _ _ => (sg_name (i := 2) nd rfl (by first | exact Or.inl rfl | exact Or.inr rfl) (by first | exact Or.inl rfl | exact Or.inr rfl))) (fun _ _ _ _ _ => spt_nil) (fun _ _ _ _ _ => (se_gidx rfl rfl g_LETTERS_BY_BITS h_LETTERS_BY_BITS (sa_cons (se_var (i := 2) rfl (by first | exact Or.inl rfl | exact Or.inr (Or.inl rfl) | exact Or.inr (Or.inr rfl))) sa_nil)))) (sg_name (i := 1) nd rfl (by first | exact Or.inl rfl | exact Or.inr rfl) (by first | exact Or.inl rfl | exact Or.inr rfl)))
    (sss_cons (ss_ret (se_tup (sa_cons (se_callT (bd_tup rfl) rfl M.b_tuple bt_tuple (sa_cons (se_lc (own := [("place", 3)]) rfl nd (sj_seqA rfl (se_var (i := 1) rfl (by first | exact Or.inl rfl | exact Or.inr (Or.inl rfl) | exact Or.inr (Or.inr rfl)))) (blkOk_by (N := ["operator", "places", "letter", "place"]) (sc := defScope (topS 33)) (by decide +kernel)) (by decide) (fun _ _ _ _ _ => (sg_name (i := 3) nd rfl (by first | exact Or.inl rfl | exact Or.inr rfl) (by first | exact Or.inl rfl | exact Or.inr rfl))) (fun _ _ _ _ _ => spt_nil) (fun _ _ _ _ _ => (se_op od_and (se_var (i := 3) rfl (by first | exact Or.inl rfl | exact Or.inr (Or.inl rfl) | exact Or.inr (Or.inr rfl))) se_int))) sa_nil)) (sa_cons (se_callT (bd_tup rfl) rfl M.b_tuple bt_tuple (sa_cons (se_lc (own := [("place", 3)]) rfl nd (sj_seqA rfl (se_var (i := 1) rfl (by first | exact Or.inl rfl | exact Or.inr (Or.inl rfl) | exact Or.inr (Or.inr rfl)))) (blkOk_by (N := ["operator", "places", "letter", "place"]) (sc := defScope (topS 33)) (by decide +kernel)) (by decide) (fun _ _ _ _ _ => (sg_name (i := 3) nd rfl (by first | exact Or.inl rfl | exact Or.inr rfl) (by first | exact Or.inl rfl | exact Or.inr rfl))) (fun _ _ _ _ _ => spt_nil) (fun _ _ _ _ _ => (se_op od_shr (se_var (i := 3) rfl (by first | exact Or.inl rfl | exact Or.inr (Or.inl rfl) | exact Or.inr (Or.inr rfl))) se_int))) sa_nil)) sa_nil))))
    sss_nil))

theorem k_letter_bits (M : MG T mg) (D0 : DefAt T "letter_bits" "letter_bits" (topS 33) 21 ["operator"])   : CalG T P w mg base false 1 21 c_letter_bits :=
  (cal_of D0 sc_letter_bits fun cdv A outer s H E _ hr => b_letter_bits M  cdv A outer s H E hr).apart

/-! letters_of -/
def n_letters_of : DS := (sSeq (sRet (dMeth isS mJoin (dC (.str "")) (dCons (dLc [2, 3] (jI (iZipX (dCons (dVar 0) (dCons (dVar 1) dNil)))) (gTpA 2 (gsCons (gNm 2) (gsCons (gNm 3) gsNil))) dYes (dIxA (dC (.tup [.str "I", .str "X", .str "Z", .str "Y"])) (dOp oAdd (dVar 2) (dOp oMultA (dC (.int 2)) (dVar 3))))) dNil))) sPass)
def c0_letters_of : List D → List O → R D := ar 2 (runF 4 n_letters_of)
def c_letters_of : List D → List O → R D := Den.apart c0_letters_of
theorem sc_letters_of : FnScope ["firsts", "seconds", "first", "second"] ["firsts", "seconds"] (defScope (topS 34)) := ⟨rfl, rfl, rfl, by decide +kernel, rfl, by decide +kernel, by decide +kernel⟩
theorem b_letters_of (M : MG T mg)  (cdv : Value) (A : Around) (outer : List Env) (s : Shared) (H : Hp) (E : XK) (hr : Room 0 (A.deeper (envOfC "letters_of" (defScope (topS 34)) s.heap.objs.size (T.fad 22) cdv))) :
    SSs T (cxOf (L2.CX P w) P w T.K mg base ["firsts", "seconds", "first", "second"] "letters_of" (defScope (topS 34)) (T.fad 22) cdv A outer s H E) (WF E) (defBody (topS 34)) n_letters_of := by
  obtain ⟨a_LETTERS_BY_BITS, g_LETTERS_BY_BITS, h_LETTERS_BY_BITS⟩ := M.t_LETTERS_BY_BITS
  have nd := sc_letters_of.nd
  have he : Here (cxOf (L2.CX P w) P w T.K mg base ["firsts", "seconds", "first", "second"] "letters_of" (defScope (topS 34)) (T.fad 22) cdv A outer s H E) (WF E) false 0 := here_fn hr
  exact (sss_cons (ss_ret (se_meth (pe_bm PySem.F.plainAttrs_str PySem.F.slot_str_join PySem.F.type_str_join (md_join rfl) pe_w pa_w) chk_str se_str (sa_cons (se_lc (own := [("first", 2), ("second", 3)]) rfl nd (sj_of (si_zipX rfl rfl M.b_zip (sa_cons (se_var (i := 0) rfl (by first | exact Or.inl rfl | exact Or.inr (Or.inl rfl) | exact Or.inr (Or.inr rfl))) (sa_cons (se_var (i := 1) rfl (by first | exact Or.inl rfl | exact Or.inr (Or.inl rfl) | exact Or.inr (Or.inr rfl))) sa_nil)))) (blkOk_by (N := ["firsts", "seconds", "first", "second"]) (sc := defScope (topS 34)) (by decide +kernel)) (by decide) (fun _ _ _ _ _ => (sg_tupA rfl rfl (sgs_cons (sg_name (i := 2) nd rfl (by first | exact Or.inl rfl | exact Or.inr rfl) (by first | exact Or.inl rfl | exact Or.inr rfl)) (sgs_cons (sg_name (i := 3) nd rfl (by first | exact Or.inl rfl | exact Or.inr rfl) (by first | exact Or.inl rfl | exact Or.inr rfl)) sgs_nil)) rfl rfl)) (fun _ _ _ _ _ => spt_nil) (fun _ _ _ _ _ => (se_ixA rfl (se_gtup rfl g_LETTERS_BY_BITS h_LETTERS_BY_BITS (fun _ _ => (.cons (.str _) (.cons (.str _) (.cons (.str _) (.cons (.str _) .nil)))))) (se_op (od_add rfl) (se_var (i := 2) rfl (by first | exact Or.inl rfl | exact Or.inr (Or.inl rfl) | exact Or.inr (Or.inr rfl))) (se_op (od_multA rfl) se_int (se_var (i := 3) rfl (by first | exact Or.inl rfl | exact Or.inr (Or.inl rfl) | exact Or.inr (Or.inr rfl))))) (fun _ _ => rfl)))) sa_nil)))
    sss_nil)

theorem k_letters_of (M : MG T mg) (D0 : DefAt T "letters_of" "letters_of" (topS 34) 22 ["firsts", "seconds"])   : CalG T P w mg base false 1 22 c_letters_of :=
  (cal_of D0 sc_letters_of fun cdv A outer s H E _ hr => b_letters_of M  cdv A outer s H E hr).apart

/-! form_of -/
def n_form_of : DS := (sSeq (sAsg (dLc [3] (jSeqA (dFn c_letter_bits (dCons (dVar 0) dNil))) (gNm 3) dYes (dFn c_mask_of (dCons (dVar 3) dNil))) (gTpA 2 (gsCons (gNm 1) (gsCons (gNm 2) gsNil)))) (sSeq (sRet (dTup (dCons (dOp oAdd (dOp oMultA (dC (.int 2)) (dCall bInt (dCons (dOp oEq (dIxA (dVar 0) (dC (.int 0))) (dC (.str "-"))) dNil))) (dMeth isS mCount (dVar 0) (dCons (dC (.str "Y")) dNil))) (dCons (dVar 1) (dCons (dVar 2) dNil))))) sPass))
def c0_form_of : List D → List O → R D := ar 1 (runF 4 n_form_of)
def c_form_of : List D → List O → R D := Den.apart c0_form_of
theorem sc_form_of : FnScope ["operator", "firsts", "seconds", "row"] ["operator"] (defScope (topS 35)) := ⟨rfl, rfl, rfl, by decide +kernel, rfl, by decide +kernel, by decide +kernel⟩
theorem b_form_of (M : MG T mg) (C_letter_bits : CalG T P w mg base false 1 21 c_letter_bits) (C_mask_of : CalG T P w mg base false 1 6 c_mask_of) (cdv : Value) (A : Around) (outer : List Env) (s : Shared) (H : Hp) (E : XK) (hr : Room 1 (A.deeper (envOfC "form_of" (defScope (topS 35)) s.heap.objs.size (T.fad 23) cdv))) :
    SSs T (cxOf (L2.CX P w) P w T.K mg base ["operator", "firsts", "seconds", "row"] "form_of" (defScope (topS 35)) (T.fad 23) cdv A outer s H E) (WF E) (defBody (topS 35)) n_form_of := by
  have nd := sc_form_of.nd
  have he : Here (cxOf (L2.CX P w) P w T.K mg base ["operator", "firsts", "seconds", "row"] "form_of" (defScope (topS 35)) (T.fad 23) cdv A outer s H E) (WF E) false 1 := here_fn hr
  exact (sss_cons (ss_asg (se_lc (own := [("row", 3)]) rfl nd (sj_seqA rfl (se_fnCall (calX (C_letter_bits.mono (by decide))) he rfl M.f_letter_bits (sa_cons (se_var (i := 0) rfl (by first | exact Or.inl rfl | exact Or.inr (Or.inl rfl) | exact Or.inr (Or.inr rfl))) sa_nil))) (blkOk_by (N := ["operator", "firsts", "seconds", "row"]) (sc := defScope (topS 35)) (by decide +kernel)) (by decide) (fun _ _ _ _ _ => (sg_name (i := 3) nd rfl (by first | exact Or.inl rfl | exact Or.inr rfl) (by first | exact Or.inl rfl | exact Or.inr rfl))) (fun _ _ _ _ _ => spt_nil) (fun _ _ _ _ _ => have he := here_blk he; (se_fnCall (calX (C_mask_of.mono (by decide))) he rfl M.f_mask_of (sa_cons (se_var (i := 3) rfl (by first | exact Or.inl rfl | exact Or.inr (Or.inl rfl) | exact Or.inr (Or.inr rfl))) sa_nil)))) (sg_tupA rfl rfl (sgs_cons (sg_name (i := 1) nd rfl (by first | exact Or.inl rfl | exact Or.inr rfl) (by first | exact Or.inl rfl | exact Or.inr rfl)) (sgs_cons (sg_name (i := 2) nd rfl (by first | exact Or.inl rfl | exact Or.inr rfl) (by first | exact Or.inl rfl | exact Or.inr rfl)) sgs_nil)) rfl rfl))
    (sss_cons (ss_ret (se_tup (sa_cons (se_op (od_add rfl) (se_op (od_multA rfl) se_int (se_callT bd_int rfl M.b_int bt_int (sa_cons (se_cmp (od_eq rfl hr.units) (se_ixA rfl (se_var (i := 0) rfl (by first | exact Or.inl rfl | exact Or.inr (Or.inl rfl) | exact Or.inr (Or.inr rfl))) se_int (fun _ _ => rfl)) se_str (nomark _)) sa_nil))) (se_meth (pe_bm PySem.F.plainAttrs_str PySem.F.slot_str_count PySem.F.type_str_count md_count pe_w pa_w) chk_str (se_var (i := 0) rfl (by first | exact Or.inl rfl | exact Or.inr (Or.inl rfl) | exact Or.inr (Or.inr rfl))) (sa_cons se_str sa_nil))) (sa_cons (se_var (i := 1) rfl (by first | exact Or.inl rfl | exact Or.inr (Or.inl rfl) | exact Or.inr (Or.inr rfl))) (sa_cons (se_var (i := 2) rfl (by first | exact Or.inl rfl | exact Or.inr (Or.inl rfl) | exact Or.inr (Or.inr rfl))) sa_nil)))))
    sss_nil))

theorem k_form_of (M : MG T mg) (D0 : DefAt T "form_of" "form_of" (topS 35) 23 ["operator"]) (C_letter_bits : CalG T P w mg base false 1 21 c_letter_bits) (C_mask_of : CalG T P w mg base false 1 6 c_mask_of)  : CalG T P w mg base false 2 23 c_form_of :=
  (cal_of D0 sc_form_of fun cdv A outer s H E _ hr => b_form_of M C_letter_bits C_mask_of cdv A outer s H E hr).apart

/-! told_form -/
def n_told_form : DS := (sSeq (sAsg (dVar 0) (gTpA 3 (gsCons (gNm 2) (gsCons (gNm 3) (gsCons (gNm 4) gsNil))))) (sSeq (sAsg (dFn c_letters_of (dCons (dFn c_row_of (dCons (dVar 3) (dCons (dVar 1) dNil))) (dCons (dFn c_row_of (dCons (dVar 4) (dCons (dVar 1) dNil))) dNil))) (gNm 5)) (sSeq (sRet (dTup (dCons (dOp oAnd (dOp oSub (dVar 2) (dMeth isS mCount (dVar 5) (dCons (dC (.str "Y")) dNil))) (dC (.int 3))) (dCons (dJs [(dC (.str "+")), (dFmt (dVar 5))] Str.empty) dNil)))) sPass)))
def c0_told_form : List D → List O → R D := ar 2 (runF 6 n_told_form)
def c_told_form : List D → List O → R D := Den.apart c0_told_form
theorem sc_told_form : FnScope ["form", "length", "power", "firsts", "seconds", "letters"] ["form", "length"] (defScope (topS 36)) := ⟨rfl, rfl, rfl, by decide +kernel, rfl, by decide +kernel, by decide +kernel⟩
theorem b_told_form (M : MG T mg) (C_letters_of : CalG T P w mg base false 1 22 c_letters_of) (C_row_of : CalG T P w mg base false 1 7 c_row_of) (cdv : Value) (A : Around) (outer : List Env) (s : Shared) (H : Hp) (E : XK) (hr : Room 1 (A.deeper (envOfC "told_form" (defScope (topS 36)) s.heap.objs.size (T.fad 24) cdv))) :
    SSs T (cxOf (L2.CX P w) P w T.K mg base ["form", "length", "power", "firsts", "seconds", "letters"] "told_form" (defScope (topS 36)) (T.fad 24) cdv A outer s H E) (WF E) (defBody (topS 36)) n_told_form := by
  have nd := sc_told_form.nd
  have he : Here (cxOf (L2.CX P w) P w T.K mg base ["form", "length", "power", "firsts", "seconds", "letters"] "told_form" (defScope (topS 36)) (T.fad 24) cdv A outer s H E) (WF E) false 1 := here_fn hr
  exact (sss_cons (ss_asg (se_var (i := 0) rfl (by first | exact Or.inl rfl | exact Or.inr (Or.inl rfl) | exact Or.inr (Or.inr rfl))) (sg_tupA rfl rfl (sgs_cons (sg_name (i := 2) nd rfl (by first | exact Or.inl rfl | exact Or.inr rfl) (by first | exact Or.inl rfl | exact Or.inr rfl)) (sgs_cons (sg_name (i := 3) nd rfl (by first | exact Or.inl rfl | exact Or.inr rfl) (by first | exact Or.inl rfl | exact Or.inr rfl)) (sgs_cons (sg_name (i := 4) nd rfl (by first | exact Or.inl rfl | exact Or.inr rfl) (by first | exact Or.inl rfl | exact Or.inr rfl)) sgs_nil))) rfl rfl))
    (sss_cons (ss_asg (se_fnCall (calX (C_letters_of.mono (by decide))) he rfl M.f_letters_of (sa_cons (se_fnCall (calX (C_row_of.mono (by decide))) he rfl M.f_row_of (sa_cons (se_var (i := 3) rfl (by first | exact Or.inl rfl | exact Or.inr (Or.inl rfl) | exact Or.inr (Or.inr rfl))) (sa_cons (se_var (i := 1) rfl (by first | exact Or.inl rfl | exact Or.inr (Or.inl rfl) | exact Or.inr (Or.inr rfl))) sa_nil))) (sa_cons (se_fnCall (calX (C_row_of.mono (by decide))) he rfl M.f_row_of (sa_cons (se_var (i := 4) rfl (by first | exact Or.inl rfl | exact Or.inr (Or.inl rfl) | exact Or.inr (Or.inr rfl))) (sa_cons (se_var (i := 1) rfl (by first | exact Or.inl rfl | exact Or.inr (Or.inl rfl) | exact Or.inr (Or.inr rfl))) sa_nil))) sa_nil))) (sg_name (i := 5) nd rfl (by first | exact Or.inl rfl | exact Or.inr rfl) (by first | exact Or.inl rfl | exact Or.inr rfl)))
    (sss_cons (ss_ret (se_tup (sa_cons (se_op od_and (se_op od_sub (se_var (i := 2) rfl (by first | exact Or.inl rfl | exact Or.inr (Or.inl rfl) | exact Or.inr (Or.inr rfl))) (se_meth (pe_bm PySem.F.plainAttrs_str PySem.F.slot_str_count PySem.F.type_str_count md_count pe_w pa_w) chk_str (se_var (i := 5) rfl (by first | exact Or.inl rfl | exact Or.inr (Or.inl rfl) | exact Or.inr (Or.inr rfl))) (sa_cons se_str sa_nil))) se_int) (sa_cons (se_joined (.cons se_str (.cons (se_fmt (se_var (i := 5) rfl (by first | exact Or.inl rfl | exact Or.inr (Or.inl rfl) | exact Or.inr (Or.inr rfl)))) .nil))) sa_nil))))
    sss_nil)))

theorem k_told_form (M : MG T mg) (D0 : DefAt T "told_form" "told_form" (topS 36) 24 ["form", "length"]) (C_letters_of : CalG T P w mg base false 1 22 c_letters_of) (C_row_of : CalG T P w mg base false 1 7 c_row_of)  : CalG T P w mg base false 2 24 c_told_form :=
  (cal_of D0 sc_told_form fun cdv A outer s H E _ hr => b_told_form M C_letters_of C_row_of cdv A outer s H E hr).apart

/-! form_times -/
def n_form_times : DS := (sSeq (sAsg (dFn c_ones (dCons (dOp oAnd (dIxA (dVar 0) (dC (.int 2))) (dIxA (dVar 1) (dC (.int 1)))) dNil)) (gNm 2)) (sSeq (sRet (dTup (dCons (dOp oAnd (dOp oAdd (dOp oAdd (dIxA (dVar 0) (dC (.int 0))) (dIxA (dVar 1) (dC (.int 0)))) (dOp oMultA (dC (.int 2)) (dVar 2))) (dC (.int 3))) (dCons (dOp oXor (dIxA (dVar 0) (dC (.int 1))) (dIxA (dVar 1) (dC (.int 1)))) (dCons (dOp oXor (dIxA (dVar 0) (dC (.int 2))) (dIxA (dVar 1) (dC (.int 2)))) dNil))))) sPass))
def c0_form_times : List D → List O → R D := ar 2 (runF 3 n_form_times)
def c_form_times : List D → List O → R D := Den.apart c0_form_times
theorem sc_form_times : FnScope ["one", "other", "passed"] ["one", "other"] (defScope (topS 37)) := ⟨rfl, rfl, rfl, by decide +kernel, rfl, by decide +kernel, by decide +kernel⟩
theorem b_form_times (M : MG T mg) (C_ones : CalG T P w mg base false 1 10 c_ones) (cdv : Value) (A : Around) (outer : List Env) (s : Shared) (H : Hp) (E : XK) (hr : Room 1 (A.deeper (envOfC "form_times" (defScope (topS 37)) s.heap.objs.size (T.fad 25) cdv))) :
    SSs T (cxOf (L2.CX P w) P w T.K mg base ["one", "other", "passed"] "form_times" (defScope (topS 37)) (T.fad 25) cdv A outer s H E) (WF E) (defBody (topS 37)) n_form_times := by
  have nd := sc_form_times.nd
  have he : Here (cxOf (L2.CX P w) P w T.K mg base ["one", "other", "passed"] "form_times" (defScope (topS 37)) (T.fad 25) cdv A outer s H E) (WF E) false 1 := here_fn hr
  exact (sss_cons (ss_asg (se_fnCall (calX (C_ones.mono (by decide))) he rfl M.f_ones (sa_cons (se_op od_and (se_ixA rfl (se_var (i := 0) rfl (by first | exact Or.inl rfl | exact Or.inr (Or.inl rfl) | exact Or.inr (Or.inr rfl))) se_int (fun _ _ => rfl)) (se_ixA rfl (se_var (i := 1) rfl (by first | exact Or.inl rfl | exact Or.inr (Or.inl rfl) | exact Or.inr (Or.inr rfl))) se_int (fun _ _ => rfl))) sa_nil)) (sg_name (i := 2) nd rfl (by first | exact Or.inl rfl | exact Or.inr rfl) (by first | exact Or.inl rfl | exact Or.inr rfl)))
    (sss_cons (ss_ret (se_tup (sa_cons (se_op od_and (se_op (od_add rfl) (se_op (od_add rfl) (se_ixA rfl (se_var (i := 0) rfl (by first | exact Or.inl rfl | exact Or.inr (Or.inl rfl) | exact Or.inr (Or.inr rfl))) se_int (fun _ _ => rfl)) (se_ixA rfl (se_var (i := 1) rfl (by first | exact Or.inl rfl | exact Or.inr (Or.inl rfl) | exact Or.inr (Or.inr rfl))) se_int (fun _ _ => rfl))) (se_op (od_multA rfl) se_int (se_var (i := 2) rfl (by first | exact Or.inl rfl | exact Or.inr (Or.inl rfl) | exact Or.inr (Or.inr rfl))))) se_int) (sa_cons (se_op od_xor (se_ixA rfl (se_var (i := 0) rfl (by first | exact Or.inl rfl | exact Or.inr (Or.inl rfl) | exact Or.inr (Or.inr rfl))) se_int (fun _ _ => rfl)) (se_ixA rfl (se_var (i := 1) rfl (by first | exact Or.inl rfl | exact Or.inr (Or.inl rfl) | exact Or.inr (Or.inr rfl))) se_int (fun _ _ => rfl))) (sa_cons (se_op od_xor (se_ixA rfl (se_var (i := 0) rfl (by first | exact Or.inl rfl | exact Or.inr (Or.inl rfl) | exact Or.inr (Or.inr rfl))) se_int (fun _ _ => rfl)) (se_ixA rfl (se_var (i := 1) rfl (by first | exact Or.inl rfl | exact Or.inr (Or.inl rfl) | exact Or.inr (Or.inr rfl))) se_int (fun _ _ => rfl))) sa_nil)))))
    sss_nil))

theorem k_form_times (M : MG T mg) (D0 : DefAt T "form_times" "form_times" (topS 37) 25 ["one", "other"]) (C_ones : CalG T P w mg base false 1 10 c_ones)  : CalG T P w mg base false 2 25 c_form_times :=
  (cal_of D0 sc_form_times fun cdv A outer s H E _ hr => b_form_times M C_ones cdv A outer s H E hr).apart

/-! does_commute -/
def n_does_commute : DS := (sSeq (sAsg (dFn c_form_of (dCons (dVar 0) dNil)) (gTpA 3 (gsCons (gNm 2) (gsCons (gNm 3) (gsCons (gNm 4) gsNil))))) (sSeq (sAsg (dFn c_form_of (dCons (dVar 1) dNil)) (gTpA 3 (gsCons (gNm 2) (gsCons (gNm 5) (gsCons (gNm 6) gsNil))))) (sSeq (sRet (dOp oEq (dOp oAnd (dOp oAdd (dFn c_ones (dCons (dOp oAnd (dVar 3) (dVar 6)) dNil)) (dFn c_ones (dCons (dOp oAnd (dVar 4) (dVar 5)) dNil))) (dC (.int 1))) (dC (.int 0)))) sPass)))
def c0_does_commute : List D → List O → R D := ar 2 (runF 7 n_does_commute)
def c_does_commute : List D → List O → R D := Den.apart c0_does_commute
theorem sc_does_commute : FnScope ["one", "other", "_", "firsts", "seconds", "others", "further"] ["one", "other"] (defScope (topS 38)) := ⟨rfl, rfl, rfl, by decide +kernel, rfl, by decide +kernel, by decide +kernel⟩
theorem b_does_commute (M : MG T mg) (C_form_of : CalG T P w mg base false 2 23 c_form_of) (C_ones : CalG T P w mg base false 1 10 c_ones) (cdv : Value) (A : Around) (outer : List Env) (s : Shared) (H : Hp) (E : XK) (hr : Room 2 (A.deeper (envOfC "does_commute" (defScope (topS 38)) s.heap.objs.size (T.fad 26) cdv))) :
    SSs T (cxOf (L2.CX P w) P w T.K mg base ["one", "other", "_", "firsts", "seconds", "others", "further"] "does_commute" (defScope (topS 38)) (T.fad 26) cdv A outer s H E) (WF E) (defBody (topS 38)) n_does_commute := by
  have nd := sc_does_commute.nd
  have he : Here (cxOf (L2.CX P w) P w T.K mg base ["one", "other", "_", "firsts", "seconds", "others", "further"] "does_commute" (defScope (topS 38)) (T.fad 26) cdv A outer s H E) (WF E) false 2 := here_fn hr
  exact (sss_cons (ss_asg (se_fnCall (calX (C_form_of.mono (by decide))) he rfl M.f_form_of (sa_cons (se_var (i := 0) rfl (by first | exact Or.inl rfl | exact Or.inr (Or.inl rfl) | exact Or.inr (Or.inr rfl))) sa_nil)) (sg_tupA rfl rfl (sgs_cons (sg_name (i := 2) nd rfl (by first | exact Or.inl rfl | exact Or.inr rfl) (by first | exact Or.inl rfl | exact Or.inr rfl)) (sgs_cons (sg_name (i := 3) nd rfl (by first | exact Or.inl rfl | exact Or.inr rfl) (by first | exact Or.inl rfl | exact Or.inr rfl)) (sgs_cons (sg_name (i := 4) nd rfl (by first | exact Or.inl rfl | exact Or.inr rfl) (by first | exact Or.inl rfl | exact Or.inr rfl)) sgs_nil))) rfl rfl))
    (sss_cons (ss_asg (se_fnCall (calX (C_form_of.mono (by decide))) he rfl M.f_form_of (sa_cons (se_var (i := 1) rfl (by first | exact Or.inl rfl | exact Or.inr (Or.inl rfl) | exact Or.inr (Or.inr rfl))) sa_nil)) (sg_tupA rfl rfl (sgs_cons (sg_name (i := 2) nd rfl (by first | exact Or.inl rfl | exact Or.inr rfl) (by first | exact Or.inl rfl | exact Or.inr rfl)) (sgs_cons (sg_name (i := 5) nd rfl (by first | exact Or.inl rfl | exact Or.inr rfl) (by first | exact Or.inl rfl | exact Or.inr rfl)) (sgs_cons (sg_name (i := 6) nd rfl (by first | exact Or.inl rfl | exact Or.inr rfl) (by first | exact Or.inl rfl | exact Or.inr rfl)) sgs_nil))) rfl rfl))
    (sss_cons (ss_ret (se_cmp (od_eq rfl hr.units) (se_op od_and (se_op (od_add rfl) (se_fnCall (calX (C_ones.mono (by decide))) he rfl M.f_ones (sa_cons (se_op od_and (se_var (i := 3) rfl (by first | exact Or.inl rfl | exact Or.inr (Or.inl rfl) | exact Or.inr (Or.inr rfl))) (se_var (i := 6) rfl (by first | exact Or.inl rfl | exact Or.inr (Or.inl rfl) | exact Or.inr (Or.inr rfl)))) sa_nil)) (se_fnCall (calX (C_ones.mono (by decide))) he rfl M.f_ones (sa_cons (se_op od_and (se_var (i := 4) rfl (by first | exact Or.inl rfl | exact Or.inr (Or.inl rfl) | exact Or.inr (Or.inr rfl))) (se_var (i := 5) rfl (by first | exact Or.inl rfl | exact Or.inr (Or.inl rfl) | exact Or.inr (Or.inr rfl)))) sa_nil))) se_int) se_int (nomark _)))
    sss_nil)))

theorem k_does_commute (M : MG T mg) (D0 : DefAt T "does_commute" "does_commute" (topS 38) 26 ["one", "other"]) (C_form_of : CalG T P w mg base false 2 23 c_form_of) (C_ones : CalG T P w mg base false 1 10 c_ones)  : CalG T P w mg base false 3 26 c_does_commute :=
  (cal_of D0 sc_does_commute fun cdv A outer s H E _ hr => b_does_commute M C_form_of C_ones cdv A outer s H E hr).apart

/-! do_commute -/
def n_do_commute : DS := (sSeq (sExpr (dFn c_check_operators (dCons (dVar 0) (dCons (dVar 1) dNil)))) (sSeq (sRet (dFn c_does_commute (dCons (dVar 0) (dCons (dVar 1) dNil)))) sPass))
def c0_do_commute : List D → List O → R D := ar 2 (runF 2 n_do_commute)
def c_do_commute : List D → List O → R D := Den.apart c0_do_commute
theorem sc_do_commute : FnScope ["one", "other"] ["one", "other"] (defScope (topS 39)) := ⟨rfl, rfl, rfl, by decide +kernel, rfl, by decide +kernel, by decide +kernel⟩
theorem b_do_commute (M : MG T mg) (C_check_operators : CalV T P w mg base 2 18 c_check_operators) (C_does_commute : CalG T P w mg base false 3 26 c_does_commute) (cdv : Value) (A : Around) (outer : List Env) (s : Shared) (H : Hp) (E : XK) (hr : Room 3 (A.deeper (envOfC "do_commute" (defScope (topS 39)) s.heap.objs.size (T.fad 27) cdv))) :
    SSs T (cxOf (L2.CX P w) P w T.K mg base ["one", "other"] "do_commute" (defScope (topS 39)) (T.fad 27) cdv A outer s H E) (WF E) (defBody (topS 39)) n_do_commute := by
  have nd := sc_do_commute.nd
  have he : Here (cxOf (L2.CX P w) P w T.K mg base ["one", "other"] "do_commute" (defScope (topS 39)) (T.fad 27) cdv A outer s H E) (WF E) false 3 := here_fn hr
  exact (sss_cons (ss_expr (se_fnCallV rfl (C_check_operators.mono (by decide)) he rfl M.f_check_operators (sa_cons (se_var (i := 0) rfl (by first | exact Or.inl rfl | exact Or.inr (Or.inl rfl) | exact Or.inr (Or.inr rfl))) (sa_cons (se_var (i := 1) rfl (by first | exact Or.inl rfl | exact Or.inr (Or.inl rfl) | exact Or.inr (Or.inr rfl))) sa_nil))))
    (sss_cons (ss_ret (se_fnCall (calX (C_does_commute.mono (by decide))) he rfl M.f_does_commute (sa_cons (se_var (i := 0) rfl (by first | exact Or.inl rfl | exact Or.inr (Or.inl rfl) | exact Or.inr (Or.inr rfl))) (sa_cons (se_var (i := 1) rfl (by first | exact Or.inl rfl | exact Or.inr (Or.inl rfl) | exact Or.inr (Or.inr rfl))) sa_nil))))
    sss_nil))

theorem k_do_commute (M : MG T mg) (D0 : DefAt T "do_commute" "do_commute" (topS 39) 27 ["one", "other"]) (C_check_operators : CalV T P w mg base 2 18 c_check_operators) (C_does_commute : CalG T P w mg base false 3 26 c_does_commute)  : CalG T P w mg base false 4 27 c_do_commute :=
  (cal_of D0 sc_do_commute fun cdv A outer s H E _ hr => b_do_commute M C_check_operators C_does_commute cdv A outer s H E hr).apart

/-! bits_of -/
def n_bits_of : DS := (sSeq (sExpr (dFn c_check_operators (dCons (dVar 0) dNil))) (sSeq (sAsg (dFn c_letter_bits (dCons (dVar 0) dNil)) (gTpA 2 (gsCons (gNm 1) (gsCons (gNm 2) gsNil)))) (sSeq (sRet (dTup (dCons (dCall bInt (dCons (dOp oEq (dIxA (dVar 0) (dC (.int 0))) (dC (.str "-"))) dNil)) (dCons (dVar 1) (dCons (dVar 2) dNil))))) sPass)))
def c0_bits_of : List D → List O → R D := ar 1 (runF 3 n_bits_of)
def c_bits_of : List D → List O → R D := Den.apart c0_bits_of
theorem sc_bits_of : FnScope ["operator", "firsts", "seconds"] ["operator"] (defScope (topS 40)) := ⟨rfl, rfl, rfl, by decide +kernel, rfl, by decide +kernel, by decide +kernel⟩
theorem b_bits_of (M : MG T mg) (C_check_operators : CalV T P w mg base 2 18 c_check_operators) (C_letter_bits : CalG T P w mg base false 1 21 c_letter_bits) (cdv : Value) (A : Around) (outer : List Env) (s : Shared) (H : Hp) (E : XK) (hr : Room 2 (A.deeper (envOfC "bits_of" (defScope (topS 40)) s.heap.objs.size (T.fad 28) cdv))) :
    SSs T (cxOf (L2.CX P w) P w T.K mg base ["operator", "firsts", "seconds"] "bits_of" (defScope (topS 40)) (T.fad 28) cdv A outer s H E) (WF E) (defBody (topS 40)) n_bits_of := by
  have nd := sc_bits_of.nd
  have he : Here (cxOf (L2.CX P w) P w T.K mg base ["operator", "firsts", "seconds"] "bits_of" (defScope (topS 40)) (T.fad 28) cdv A outer s H E) (WF E) false 2 := here_fn hr
  exact (sss_cons (ss_expr (se_fnCallV rfl (C_check_operators.mono (by decide)) he rfl M.f_check_operators (sa_cons (se_var (i := 0) rfl (by first | exact Or.inl rfl | exact Or.inr (Or.inl rfl) | exact Or.inr (Or.inr rfl))) sa_nil)))
    (sss_cons (ss_asg (se_fnCall (calX (C_letter_bits.mono (by decide))) he rfl M.f_letter_bits (sa_cons (se_var (i := 0) rfl (by first | exact Or.inl rfl | exact Or.inr (Or.inl rfl) | exact Or.inr (Or.inr rfl))) sa_nil)) (sg_tupA rfl rfl (sgs_cons (sg_name (i := 1) nd rfl (by first | exact Or.inl rfl | exact Or.inr rfl) (by first | exact Or.inl rfl | exact Or.inr rfl)) (sgs_cons (sg_name (i := 2) nd rfl (by first | exact Or.inl rfl | exact Or.inr rfl) (by first | exact Or.inl rfl | exact Or.inr rfl)) sgs_nil)) rfl rfl))
    (sss_cons (ss_ret (se_tup (sa_cons (se_callT bd_int rfl M.b_int bt_int (sa_cons (se_cmp (od_eq rfl hr.units) (se_ixA rfl (se_var (i := 0) rfl (by first | exact Or.inl rfl | exact Or.inr (Or.inl rfl) | exact Or.inr (Or.inr rfl))) se_int (fun _ _ => rfl)) se_str (nomark _)) sa_nil)) (sa_cons (se_var (i := 1) rfl (by first | exact Or.inl rfl | exact Or.inr (Or.inl rfl) | exact Or.inr (Or.inr rfl))) (sa_cons (se_var (i := 2) rfl (by first | exact Or.inl rfl | exact Or.inr (Or.inl rfl) | exact Or.inr (Or.inr rfl))) sa_nil)))))
    sss_nil)))

theorem k_bits_of (M : MG T mg) (D0 : DefAt T "bits_of" "bits_of" (topS 40) 28 ["operator"]) (C_check_operators : CalV T P w mg base 2 18 c_check_operators) (C_letter_bits : CalG T P w mg base false 1 21 c_letter_bits)  : CalG T P w mg base false 3 28 c_bits_of :=
  (cal_of D0 sc_bits_of fun cdv A outer s H E _ hr => b_bits_of M C_check_operators C_letter_bits cdv A outer s H E hr).apart

/-! times_all -/
def n_times_all : DS := (sSeq (sAsg (dTup (dCons (dC (.int 0)) (dCons (dC (.int 0)) (dCons (dC (.int 0)) dNil)))) (gNm 1)) (sSeq (sFor (jSeqA (dVar 0)) (gNm 2) (sSeq (sAsg (dFn c_form_times (dCons (dVar 1) (dCons (dFn c_form_of (dCons (dVar 2) dNil)) dNil))) (gNm 1)) sPass)) (sSeq (sRet (dFn c_told_form (dCons (dVar 1) (dCons (dOp oSub (dCall bLen (dCons (dIxA (dVar 0) (dC (.int 0))) dNil)) (dC (.int 1))) dNil)))) sPass)))
def c0_times_all : List D → List O → R D := ar 1 (runF 3 n_times_all)
def c_times_all : List D → List O → R D := Den.apart c0_times_all
theorem sc_times_all : FnScope ["operators", "form", "operator"] ["operators"] (defScope (topS 41)) := ⟨rfl, rfl, rfl, by decide +kernel, rfl, by decide +kernel, by decide +kernel⟩
theorem b_times_all (M : MG T mg) (C_form_times : CalG T P w mg base false 2 25 c_form_times) (C_form_of : CalG T P w mg base false 2 23 c_form_of) (C_told_form : CalG T P w mg base false 2 24 c_told_form) (cdv : Value) (A : Around) (outer : List Env) (s : Shared) (H : Hp) (E : XK) (hr : Room 2 (A.deeper (envOfC "times_all" (defScope (topS 41)) s.heap.objs.size (T.fad 29) cdv))) :
    SSs T (cxOf (L2.CX P w) P w T.K mg base ["operators", "form", "operator"] "times_all" (defScope (topS 41)) (T.fad 29) cdv A outer s H E) (WF E) (defBody (topS 41)) n_times_all := by
  have nd := sc_times_all.nd
  have he : Here (cxOf (L2.CX P w) P w T.K mg base ["operators", "form", "operator"] "times_all" (defScope (topS 41)) (T.fad 29) cdv A outer s H E) (WF E) false 2 := here_fn hr
  exact (sss_cons (ss_asg (se_tup (sa_cons se_int (sa_cons se_int (sa_cons se_int sa_nil)))) (sg_name (i := 1) nd rfl (by first | exact Or.inl rfl | exact Or.inr rfl) (by first | exact Or.inl rfl | exact Or.inr rfl)))
    (sss_cons (ss_for pas_fn rfl (sj_seqA rfl (se_var (i := 0) rfl (by first | exact Or.inl rfl | exact Or.inr (Or.inl rfl) | exact Or.inr (Or.inr rfl)))) (sg_name (i := 2) nd rfl (by first | exact Or.inl rfl | exact Or.inr rfl) (by first | exact Or.inl rfl | exact Or.inr rfl)) ((sss_cons (ss_asg (se_fnCall (calX (C_form_times.mono (by decide))) he rfl M.f_form_times (sa_cons (se_var (i := 1) rfl (by first | exact Or.inl rfl | exact Or.inr (Or.inl rfl) | exact Or.inr (Or.inr rfl))) (sa_cons (se_fnCall (calX (C_form_of.mono (by decide))) he rfl M.f_form_of (sa_cons (se_var (i := 2) rfl (by first | exact Or.inl rfl | exact Or.inr (Or.inl rfl) | exact Or.inr (Or.inr rfl))) sa_nil)) sa_nil))) (sg_name (i := 1) nd rfl (by first | exact Or.inl rfl | exact Or.inr rfl) (by first | exact Or.inl rfl | exact Or.inr rfl)))
    sss_nil)))
    (sss_cons (ss_ret (se_fnCall (calX (C_told_form.mono (by decide))) he rfl M.f_told_form (sa_cons (se_var (i := 1) rfl (by first | exact Or.inl rfl | exact Or.inr (Or.inl rfl) | exact Or.inr (Or.inr rfl))) (sa_cons (se_op od_sub (se_callB (bd_len rfl) rfl M.b_len bt_len (sa_cons (se_ixA rfl (se_var (i := 0) rfl (by first | exact Or.inl rfl | exact Or.inr (Or.inl rfl) | exact Or.inr (Or.inr rfl))) se_int (fun _ _ => rfl)) sa_nil)) se_int) sa_nil))))
    sss_nil)))

theorem k_times_all (M : MG T mg) (D0 : DefAt T "times_all" "times_all" (topS 41) 29 ["operators"]) (C_form_times : CalG T P w mg base false 2 25 c_form_times) (C_form_of : CalG T P w mg base false 2 23 c_form_of) (C_told_form : CalG T P w mg base false 2 24 c_told_form)  : CalG T P w mg base false 3 29 c_times_all :=
  (cal_of D0 sc_times_all fun cdv A outer s H E _ hr => b_times_all M C_form_times C_form_of C_told_form cdv A outer s H E hr).apart

/-! times -/
def n_times : DS := (sSeq (sExpr (dFn c_check_operators (dCons (dVar 0) (dCons (dVar 1) dNil)))) (sSeq (sRet (dFn c_times_all (dCons (dLst (dCons (dVar 0) (dCons (dVar 1) dNil))) dNil))) sPass))
def c0_times : List D → List O → R D := ar 2 (runF 2 n_times)
def c_times : List D → List O → R D := Den.apart c0_times
theorem sc_times : FnScope ["one", "other"] ["one", "other"] (defScope (topS 42)) := ⟨rfl, rfl, rfl, by decide +kernel, rfl, by decide +kernel, by decide +kernel⟩
theorem b_times (M : MG T mg) (C_check_operators : CalV T P w mg base 2 18 c_check_operators) (C_times_all : CalG T P w mg base false 3 29 c_times_all) (cdv : Value) (A : Around) (outer : List Env) (s : Shared) (H : Hp) (E : XK) (hr : Room 3 (A.deeper (envOfC "times" (defScope (topS 42)) s.heap.objs.size (T.fad 30) cdv))) :
    SSs T (cxOf (L2.CX P w) P w T.K mg base ["one", "other"] "times" (defScope (topS 42)) (T.fad 30) cdv A outer s H E) (WF E) (defBody (topS 42)) n_times := by
  have nd := sc_times.nd
  have he : Here (cxOf (L2.CX P w) P w T.K mg base ["one", "other"] "times" (defScope (topS 42)) (T.fad 30) cdv A outer s H E) (WF E) false 3 := here_fn hr
  exact (sss_cons (ss_expr (se_fnCallV rfl (C_check_operators.mono (by decide)) he rfl M.f_check_operators (sa_cons (se_var (i := 0) rfl (by first | exact Or.inl rfl | exact Or.inr (Or.inl rfl) | exact Or.inr (Or.inr rfl))) (sa_cons (se_var (i := 1) rfl (by first | exact Or.inl rfl | exact Or.inr (Or.inl rfl) | exact Or.inr (Or.inr rfl))) sa_nil))))
    (sss_cons (ss_ret (se_fnCall (calX (C_times_all.mono (by decide))) he rfl M.f_times_all (sa_cons (se_lst (sa_cons (se_var (i := 0) rfl (by first | exact Or.inl rfl | exact Or.inr (Or.inl rfl) | exact Or.inr (Or.inr rfl))) (sa_cons (se_var (i := 1) rfl (by first | exact Or.inl rfl | exact Or.inr (Or.inl rfl) | exact Or.inr (Or.inr rfl))) sa_nil))) sa_nil)))
    sss_nil))

theorem k_times (M : MG T mg) (D0 : DefAt T "times" "times" (topS 42) 30 ["one", "other"]) (C_check_operators : CalV T P w mg base 2 18 c_check_operators) (C_times_all : CalG T P w mg base false 3 29 c_times_all)  : CalG T P w mg base false 4 30 c_times :=
  (cal_of D0 sc_times fun cdv A outer s H E _ hr => b_times M C_check_operators C_times_all cdv A outer s H E hr).apart

/-! with_sign -/
def n_with_sign : DS := (sSeq (sRet (dOp oAdd (dIf (dTru (dVar 0)) (dC (.str "-")) (dC (.str "+"))) (dSlA (dVar 1) (dSo (dC (.int 1))) dNo))) sPass)
def c0_with_sign : List D → List O → R D := ar 2 (runF 2 n_with_sign)
def c_with_sign : List D → List O → R D := Den.apart c0_with_sign
theorem sc_with_sign : FnScope ["bit", "operator"] ["bit", "operator"] (defScope (topS 43)) := ⟨rfl, rfl, rfl, by decide +kernel, rfl, by decide +kernel, by decide +kernel⟩
theorem b_with_sign (M : MG T mg)  (cdv : Value) (A : Around) (outer : List Env) (s : Shared) (H : Hp) (E : XK) (hr : Room 0 (A.deeper (envOfC "with_sign" (defScope (topS 43)) s.heap.objs.size (T.fad 31) cdv))) :
    SSs T (cxOf (L2.CX P w) P w T.K mg base ["bit", "operator"] "with_sign" (defScope (topS 43)) (T.fad 31) cdv A outer s H E) (WF E) (defBody (topS 43)) n_with_sign := by
  have nd := sc_with_sign.nd
  have he : Here (cxOf (L2.CX P w) P w T.K mg base ["bit", "operator"] "with_sign" (defScope (topS 43)) (T.fad 31) cdv A outer s H E) (WF E) false 0 := here_fn hr
  exact (sss_cons (ss_ret (se_op (od_add rfl) (se_if (st_tru rfl (se_var (i := 0) rfl (by first | exact Or.inl rfl | exact Or.inr (Or.inl rfl) | exact Or.inr (Or.inr rfl)))) se_str se_str) (se_slA rfl (se_var (i := 1) rfl (by first | exact Or.inl rfl | exact Or.inr (Or.inl rfl) | exact Or.inr (Or.inr rfl))) (so_some se_int) so_none)))
    sss_nil)

theorem k_with_sign (M : MG T mg) (D0 : DefAt T "with_sign" "with_sign" (topS 43) 31 ["bit", "operator"])   : CalG T P w mg base false 1 31 c_with_sign :=
  (cal_of D0 sc_with_sign fun cdv A outer s H E _ hr => b_with_sign M  cdv A outer s H E hr).apart

/-! product -/
def n_product : DS := (sSeq (sExpr (dFn c_check_operators (dCons (dVar 0) (dCons (dVar 1) dNil)))) (sSeq (sAsg (dFn c_times_all (dCons (dLst (dCons (dVar 0) (dCons (dVar 1) dNil))) dNil)) (gTpA 2 (gsCons (gNm 2) (gsCons (gNm 3) gsNil)))) (sSeq (sIf (dTru (dOp oAnd (dVar 2) (dC (.int 1)))) (sSeq (sRaise 2) sPass) sPass) (sSeq (sRet (dFn c_with_sign (dCons (dOp oShr (dVar 2) (dC (.int 1))) (dCons (dVar 3) dNil)))) sPass))))
def c0_product : List D → List O → R D := ar 2 (runF 4 n_product)
def c_product : List D → List O → R D := Den.apart c0_product
theorem sc_product : FnScope ["one", "other", "power", "found"] ["one", "other"] (defScope (topS 44)) := ⟨rfl, rfl, rfl, by decide +kernel, rfl, by decide +kernel, by decide +kernel⟩
theorem b_product (M : MG T mg) (C_check_operators : CalV T P w mg base 2 18 c_check_operators) (C_times_all : CalG T P w mg base false 3 29 c_times_all) (C_with_sign : CalG T P w mg base false 1 31 c_with_sign) (cdv : Value) (A : Around) (outer : List Env) (s : Shared) (H : Hp) (E : XK) (hr : Room 3 (A.deeper (envOfC "product" (defScope (topS 44)) s.heap.objs.size (T.fad 32) cdv))) :
    SSs T (cxOf (L2.CX P w) P w T.K mg base ["one", "other", "power", "found"] "product" (defScope (topS 44)) (T.fad 32) cdv A outer s H E) (WF E) (defBody (topS 44)) n_product := by
  have nd := sc_product.nd
  have he : Here (cxOf (L2.CX P w) P w T.K mg base ["one", "other", "power", "found"] "product" (defScope (topS 44)) (T.fad 32) cdv A outer s H E) (WF E) false 3 := here_fn hr
  exact (sss_cons (ss_expr (se_fnCallV rfl (C_check_operators.mono (by decide)) he rfl M.f_check_operators (sa_cons (se_var (i := 0) rfl (by first | exact Or.inl rfl | exact Or.inr (Or.inl rfl) | exact Or.inr (Or.inr rfl))) (sa_cons (se_var (i := 1) rfl (by first | exact Or.inl rfl | exact Or.inr (Or.inl rfl) | exact Or.inr (Or.inr rfl))) sa_nil))))
    (sss_cons (ss_asg (se_fnCall (calX (C_times_all.mono (by decide))) he rfl M.f_times_all (sa_cons (se_lst (sa_cons (se_var (i := 0) rfl (by first | exact Or.inl rfl | exact Or.inr (Or.inl rfl) | exact Or.inr (Or.inr rfl))) (sa_cons (se_var (i := 1) rfl (by first | exact Or.inl rfl | exact Or.inr (Or.inl rfl) | exact Or.inr (Or.inr rfl))) sa_nil))) sa_nil)) (sg_tupA rfl rfl (sgs_cons (sg_name (i := 2) nd rfl (by first | exact Or.inl rfl | exact Or.inr rfl) (by first | exact Or.inl rfl | exact Or.inr rfl)) (sgs_cons (sg_name (i := 3) nd rfl (by first | exact Or.inl rfl | exact Or.inr rfl) (by first | exact Or.inl rfl | exact Or.inr rfl)) sgs_nil)) rfl rfl))
    (sss_cons (ss_if (st_tru rfl (se_op od_and (se_var (i := 2) rfl (by first | exact Or.inl rfl | exact Or.inr (Or.inl rfl) | exact Or.inr (Or.inr rfl))) se_int)) ((sss_cons (ss_raise rfl he.tk (pmk_own PySem.F.excBase_ValueError M.xe_InvalidOperation M.c_InvalidOperation M.xk_InvalidOperation (raises_own M.xs_InvalidOperation M.xt_InvalidOperation) rfl))
    sss_nil)) (sss_nil))
    (sss_cons (ss_ret (se_fnCall (calX (C_with_sign.mono (by decide))) he rfl M.f_with_sign (sa_cons (se_op od_shr (se_var (i := 2) rfl (by first | exact Or.inl rfl | exact Or.inr (Or.inl rfl) | exact Or.inr (Or.inr rfl))) se_int) (sa_cons (se_var (i := 3) rfl (by first | exact Or.inl rfl | exact Or.inr (Or.inl rfl) | exact Or.inr (Or.inr rfl))) sa_nil))))
    sss_nil))))

theorem k_product (M : MG T mg) (D0 : DefAt T "product" "product" (topS 44) 32 ["one", "other"]) (C_check_operators : CalV T P w mg base 2 18 c_check_operators) (C_times_all : CalG T P w mg base false 3 29 c_times_all) (C_with_sign : CalG T P w mg base false 1 31 c_with_sign)  : CalG T P w mg base false 4 32 c_product :=
  (cal_of D0 sc_product fun cdv A outer s H E _ hr => b_product M C_check_operators C_times_all C_with_sign cdv A outer s H E hr).apart

/-! is_choice -/
def n_is_choice : DS := (sSeq (sRet (dAnd (dFn c_are_ascending (dCons (dVar 0) (dCons (dVar 1) dNil))) (dOp oNe (dVar 0) (dTup dNil)))) sPass)
def c0_is_choice : List D → List O → R D := ar 2 (runF 2 n_is_choice)
def c_is_choice : List D → List O → R D := Den.apart c0_is_choice
theorem sc_is_choice : FnScope ["value", "many"] ["value", "many"] (defScope (topS 45)) := ⟨rfl, rfl, rfl, by decide +kernel, rfl, by decide +kernel, by decide +kernel⟩
theorem b_is_choice (M : MG T mg) (C_are_ascending : CalG T P w mg base false 3 3 c_are_ascending) (cdv : Value) (A : Around) (outer : List Env) (s : Shared) (H : Hp) (E : XK) (hr : Room 3 (A.deeper (envOfC "is_choice" (defScope (topS 45)) s.heap.objs.size (T.fad 33) cdv))) :
    SSs T (cxOf (L2.CX P w) P w T.K mg base ["value", "many"] "is_choice" (defScope (topS 45)) (T.fad 33) cdv A outer s H E) (WF E) (defBody (topS 45)) n_is_choice := by
  have nd := sc_is_choice.nd
  have he : Here (cxOf (L2.CX P w) P w T.K mg base ["value", "many"] "is_choice" (defScope (topS 45)) (T.fad 33) cdv A outer s H E) (WF E) false 3 := here_fn hr
  exact (sss_cons (ss_ret (se_and (se_fnCall (calX (C_are_ascending.mono (by decide))) he rfl M.f_are_ascending (sa_cons (se_var (i := 0) rfl (by first | exact Or.inl rfl | exact Or.inr (Or.inl rfl) | exact Or.inr (Or.inr rfl))) (sa_cons (se_var (i := 1) rfl (by first | exact Or.inl rfl | exact Or.inr (Or.inl rfl) | exact Or.inr (Or.inr rfl))) sa_nil))) (se_one (se_cmp (od_ne rfl hr.units) (se_var (i := 0) rfl (by first | exact Or.inl rfl | exact Or.inr (Or.inl rfl) | exact Or.inr (Or.inr rfl))) (se_tup sa_nil) (nomark _)))))
    sss_nil)

theorem k_is_choice (M : MG T mg) (D0 : DefAt T "is_choice" "is_choice" (topS 45) 33 ["value", "many"]) (C_are_ascending : CalG T P w mg base false 3 3 c_are_ascending)  : CalG T P w mg base false 4 33 c_is_choice :=
  (cal_of D0 sc_is_choice fun cdv A outer s H E _ hr => b_is_choice M C_are_ascending cdv A outer s H E hr).apart

/-! product_of -/
def n_product_of : DS := (sSeq (sExpr (dFn c_check_row (dCons (dVar 0) dNil))) (sSeq (sIf (dNotT (dTru (dFn c_is_choice (dCons (dVar 1) (dCons (dCall bLen (dCons (dVar 0) dNil)) dNil))))) (sSeq (sRaise 2) sPass) sPass) (sSeq (sRet (dFn c_times_all (dCons (dLc [2] (jSeqA (dVar 1)) (gNm 2) dYes (dIxA (dVar 0) (dVar 2))) dNil))) sPass)))
def c0_product_of : List D → List O → R D := ar 2 (runF 3 n_product_of)
def c_product_of : List D → List O → R D := Den.apart c0_product_of
theorem sc_product_of : FnScope ["row", "indices", "at"] ["row", "indices"] (defScope (topS 46)) := ⟨rfl, rfl, rfl, by decide +kernel, rfl, by decide +kernel, by decide +kernel⟩
theorem b_product_of (M : MG T mg) (C_check_row : CalG T P w mg base false 3 19 c_check_row) (C_is_choice : CalG T P w mg base false 4 33 c_is_choice) (C_times_all : CalG T P w mg base false 3 29 c_times_all) (cdv : Value) (A : Around) (outer : List Env) (s : Shared) (H : Hp) (E : XK) (hr : Room 4 (A.deeper (envOfC "product_of" (defScope (topS 46)) s.heap.objs.size (T.fad 34) cdv))) :
    SSs T (cxOf (L2.CX P w) P w T.K mg base ["row", "indices", "at"] "product_of" (defScope (topS 46)) (T.fad 34) cdv A outer s H E) (WF E) (defBody (topS 46)) n_product_of := by
  have nd := sc_product_of.nd
  have he : Here (cxOf (L2.CX P w) P w T.K mg base ["row", "indices", "at"] "product_of" (defScope (topS 46)) (T.fad 34) cdv A outer s H E) (WF E) false 4 := here_fn hr
  exact (sss_cons (ss_expr (se_fnCall (calX (C_check_row.mono (by decide))) he rfl M.f_check_row (sa_cons (se_var (i := 0) rfl (by first | exact Or.inl rfl | exact Or.inr (Or.inl rfl) | exact Or.inr (Or.inr rfl))) sa_nil)))
    (sss_cons (ss_if (st_not (st_tru rfl (se_fnCall (calX (C_is_choice.mono (by decide))) he rfl M.f_is_choice (sa_cons (se_var (i := 1) rfl (by first | exact Or.inl rfl | exact Or.inr (Or.inl rfl) | exact Or.inr (Or.inr rfl))) (sa_cons (se_callB (bd_len rfl) rfl M.b_len bt_len (sa_cons (se_var (i := 0) rfl (by first | exact Or.inl rfl | exact Or.inr (Or.inl rfl) | exact Or.inr (Or.inr rfl))) sa_nil)) sa_nil))))) ((sss_cons (ss_raise rfl he.tk (pmk_own PySem.F.excBase_ValueError M.xe_InvalidOperation M.c_InvalidOperation M.xk_InvalidOperation (raises_own M.xs_InvalidOperation M.xt_InvalidOperation) rfl))
    sss_nil)) (sss_nil))
    (sss_cons (ss_ret (se_fnCall (calX (C_times_all.mono (by decide))) he rfl M.f_times_all (sa_cons (se_lc (own := [("at", 2)]) rfl nd (sj_seqA rfl (se_var (i := 1) rfl (by first | exact Or.inl rfl | exact Or.inr (Or.inl rfl) | exact Or.inr (Or.inr rfl)))) (blkOk_by (N := ["row", "indices", "at"]) (sc := defScope (topS 46)) (by decide +kernel)) (by decide) (fun _ _ _ _ _ => (sg_name (i := 2) nd rfl (by first | exact Or.inl rfl | exact Or.inr rfl) (by first | exact Or.inl rfl | exact Or.inr rfl))) (fun _ _ _ _ _ => spt_nil) (fun _ _ _ _ _ => (se_ixA rfl (se_var (i := 0) rfl (by first | exact Or.inl rfl | exact Or.inr (Or.inl rfl) | exact Or.inr (Or.inr rfl))) (se_var (i := 2) rfl (by first | exact Or.inl rfl | exact Or.inr (Or.inl rfl) | exact Or.inr (Or.inr rfl))) (fun _ _ => rfl)))) sa_nil)))
    sss_nil)))

theorem k_product_of (M : MG T mg) (D0 : DefAt T "product_of" "product_of" (topS 46) 34 ["row", "indices"]) (C_check_row : CalG T P w mg base false 3 19 c_check_row) (C_is_choice : CalG T P w mg base false 4 33 c_is_choice) (C_times_all : CalG T P w mg base false 3 29 c_times_all)  : CalG T P w mg base false 5 34 c_product_of :=
  (cal_of D0 sc_product_of fun cdv A outer s H E _ hr => b_product_of M C_check_row C_is_choice C_times_all cdv A outer s H E hr).apart

/-! turned_by -/
def n_turned_by : DS := (sSeq (sAsg (dFn c_times_all (dCons (dLst (dCons (dVar 1) (dCons (dVar 0) dNil))) dNil)) (gTpA 2 (gsCons (gNm 2) (gsCons (gNm 3) gsNil)))) (sSeq (sRet (dIf (dTru (dOp oAnd (dVar 2) (dC (.int 1)))) (dFn c_with_sign (dCons (dOp oAnd (dOp oShr (dOp oAdd (dVar 2) (dC (.int 1))) (dC (.int 1))) (dC (.int 1))) (dCons (dVar 3) dNil))) (dVar 0))) sPass))
def c0_turned_by : List D → List O → R D := ar 2 (runF 4 n_turned_by)
def c_turned_by : List D → List O → R D := Den.apart c0_turned_by
theorem sc_turned_by : FnScope ["operator", "by", "power", "found"] ["operator", "by"] (defScope (topS 47)) := ⟨rfl, rfl, rfl, by decide +kernel, rfl, by decide +kernel, by decide +kernel⟩
theorem b_turned_by (M : MG T mg) (C_times_all : CalG T P w mg base false 3 29 c_times_all) (C_with_sign : CalG T P w mg base false 1 31 c_with_sign) (cdv : Value) (A : Around) (outer : List Env) (s : Shared) (H : Hp) (E : XK) (hr : Room 3 (A.deeper (envOfC "turned_by" (defScope (topS 47)) s.heap.objs.size (T.fad 35) cdv))) :
    SSs T (cxOf (L2.CX P w) P w T.K mg base ["operator", "by", "power", "found"] "turned_by" (defScope (topS 47)) (T.fad 35) cdv A outer s H E) (WF E) (defBody (topS 47)) n_turned_by := by
  have nd := sc_turned_by.nd
  have he : Here (cxOf (L2.CX P w) P w T.K mg base ["operator", "by", "power", "found"] "turned_by" (defScope (topS 47)) (T.fad 35) cdv A outer s H E) (WF E) false 3 := here_fn hr
  exact (sss_cons (ss_asg (se_fnCall (calX (C_times_all.mono (by decide))) he rfl M.f_times_all (sa_cons (se_lst (sa_cons (se_var (i := 1) rfl (by first | exact Or.inl rfl | exact Or.inr (Or.inl rfl) | exact Or.inr (Or.inr rfl))) (sa_cons (se_var (i := 0) rfl (by first | exact Or.inl rfl | exact Or.inr (Or.inl rfl) | exact Or.inr (Or.inr rfl))) sa_nil))) sa_nil)) (sg_tupA rfl rfl (sgs_cons (sg_name (i := 2) nd rfl (by first | exact Or.inl rfl | exact Or.inr rfl) (by first | exact Or.inl rfl | exact Or.inr rfl)) (sgs_cons (sg_name (i := 3) nd rfl (by first | exact Or.inl rfl | exact Or.inr rfl) (by first | exact Or.inl rfl | exact Or.inr rfl)) sgs_nil)) rfl rfl))
    (sss_cons (ss_ret (se_if (st_tru rfl (se_op od_and (se_var (i := 2) rfl (by first | exact Or.inl rfl | exact Or.inr (Or.inl rfl) | exact Or.inr (Or.inr rfl))) se_int)) (se_fnCall (calX (C_with_sign.mono (by decide))) he rfl M.f_with_sign (sa_cons (se_op od_and (se_op od_shr (se_op (od_add rfl) (se_var (i := 2) rfl (by first | exact Or.inl rfl | exact Or.inr (Or.inl rfl) | exact Or.inr (Or.inr rfl))) se_int) se_int) se_int) (sa_cons (se_var (i := 3) rfl (by first | exact Or.inl rfl | exact Or.inr (Or.inl rfl) | exact Or.inr (Or.inr rfl))) sa_nil))) (se_var (i := 0) rfl (by first | exact Or.inl rfl | exact Or.inr (Or.inl rfl) | exact Or.inr (Or.inr rfl)))))
    sss_nil))

theorem k_turned_by (M : MG T mg) (D0 : DefAt T "turned_by" "turned_by" (topS 47) 35 ["operator", "by"]) (C_times_all : CalG T P w mg base false 3 29 c_times_all) (C_with_sign : CalG T P w mg base false 1 31 c_with_sign)  : CalG T P w mg base false 4 35 c_turned_by :=
  (cal_of D0 sc_turned_by fun cdv A outer s H E _ hr => b_turned_by M C_times_all C_with_sign cdv A outer s H E hr).apart

/-! quarter -/
def n_quarter : DS := (sSeq (sExpr (dFn c_check_operators (dCons (dVar 0) (dCons (dVar 1) dNil)))) (sSeq (sRet (dFn c_turned_by (dCons (dVar 0) (dCons (dVar 1) dNil)))) sPass))
def c0_quarter : List D → List O → R D := ar 2 (runF 2 n_quarter)
def c_quarter : List D → List O → R D := Den.apart c0_quarter
theorem sc_quarter : FnScope ["operator", "by"] ["operator", "by"] (defScope (topS 48)) := ⟨rfl, rfl, rfl, by decide +kernel, rfl, by decide +kernel, by decide +kernel⟩
theorem b_quarter (M : MG T mg) (C_check_operators : CalV T P w mg base 2 18 c_check_operators) (C_turned_by : CalG T P w mg base false 4 35 c_turned_by) (cdv : Value) (A : Around) (outer : List Env) (s : Shared) (H : Hp) (E : XK) (hr : Room 4 (A.deeper (envOfC "quarter" (defScope (topS 48)) s.heap.objs.size (T.fad 36) cdv))) :
    SSs T (cxOf (L2.CX P w) P w T.K mg base ["operator", "by"] "quarter" (defScope (topS 48)) (T.fad 36) cdv A outer s H E) (WF E) (defBody (topS 48)) n_quarter := by
  have nd := sc_quarter.nd
  have he : Here (cxOf (L2.CX P w) P w T.K mg base ["operator", "by"] "quarter" (defScope (topS 48)) (T.fad 36) cdv A outer s H E) (WF E) false 4 := here_fn hr
  exact (sss_cons (ss_expr (se_fnCallV rfl (C_check_operators.mono (by decide)) he rfl M.f_check_operators (sa_cons (se_var (i := 0) rfl (by first | exact Or.inl rfl | exact Or.inr (Or.inl rfl) | exact Or.inr (Or.inr rfl))) (sa_cons (se_var (i := 1) rfl (by first | exact Or.inl rfl | exact Or.inr (Or.inl rfl) | exact Or.inr (Or.inr rfl))) sa_nil))))
    (sss_cons (ss_ret (se_fnCall (calX (C_turned_by.mono (by decide))) he rfl M.f_turned_by (sa_cons (se_var (i := 0) rfl (by first | exact Or.inl rfl | exact Or.inr (Or.inl rfl) | exact Or.inr (Or.inr rfl))) (sa_cons (se_var (i := 1) rfl (by first | exact Or.inl rfl | exact Or.inr (Or.inl rfl) | exact Or.inr (Or.inr rfl))) sa_nil))))
    sss_nil))

theorem k_quarter (M : MG T mg) (D0 : DefAt T "quarter" "quarter" (topS 48) 36 ["operator", "by"]) (C_check_operators : CalV T P w mg base 2 18 c_check_operators) (C_turned_by : CalG T P w mg base false 4 35 c_turned_by)  : CalG T P w mg base false 5 36 c_quarter :=
  (cal_of D0 sc_quarter fun cdv A outer s H E _ hr => b_quarter M C_check_operators C_turned_by cdv A outer s H E hr).apart

/-! is_one -/
def n_is_one : DS := (sSeq (sRet (dOp oEq (dMeth isS mCount (dVar 0) (dCons (dC (.str "I")) dNil)) (dOp oSub (dCall bLen (dCons (dVar 0) dNil)) (dC (.int 1))))) sPass)
def c0_is_one : List D → List O → R D := ar 1 (runF 1 n_is_one)
def c_is_one : List D → List O → R D := Den.apart c0_is_one
theorem sc_is_one : FnScope ["letters"] ["letters"] (defScope (topS 49)) := ⟨rfl, rfl, rfl, by decide +kernel, rfl, by decide +kernel, by decide +kernel⟩
theorem b_is_one (M : MG T mg)  (cdv : Value) (A : Around) (outer : List Env) (s : Shared) (H : Hp) (E : XK) (hr : Room 0 (A.deeper (envOfC "is_one" (defScope (topS 49)) s.heap.objs.size (T.fad 37) cdv))) :
    SSs T (cxOf (L2.CX P w) P w T.K mg base ["letters"] "is_one" (defScope (topS 49)) (T.fad 37) cdv A outer s H E) (WF E) (defBody (topS 49)) n_is_one := by
  have nd := sc_is_one.nd
  have he : Here (cxOf (L2.CX P w) P w T.K mg base ["letters"] "is_one" (defScope (topS 49)) (T.fad 37) cdv A outer s H E) (WF E) false 0 := here_fn hr
  exact (sss_cons (ss_ret (se_cmp (od_eq rfl hr.units) (se_meth (pe_bm PySem.F.plainAttrs_str PySem.F.slot_str_count PySem.F.type_str_count md_count pe_w pa_w) chk_str (se_var (i := 0) rfl (by first | exact Or.inl rfl | exact Or.inr (Or.inl rfl) | exact Or.inr (Or.inr rfl))) (sa_cons se_str sa_nil)) (se_op od_sub (se_callB (bd_len rfl) rfl M.b_len bt_len (sa_cons (se_var (i := 0) rfl (by first | exact Or.inl rfl | exact Or.inr (Or.inl rfl) | exact Or.inr (Or.inr rfl))) sa_nil)) se_int) (nomark _)))
    sss_nil)

theorem k_is_one (M : MG T mg) (D0 : DefAt T "is_one" "is_one" (topS 49) 37 ["letters"])   : CalG T P w mg base false 1 37 c_is_one :=
  (cal_of D0 sc_is_one fun cdv A outer s H E _ hr => b_is_one M  cdv A outer s H E hr).apart

/-! is_unlike_pair -/
def n_is_unlike_pair : DS := (sSeq (sRet (dOp oNe (dFn c_does_commute (dCons (dIxA (dVar 0) (dVar 2)) (dCons (dIxA (dVar 0) (dVar 3)) dNil))) (dFn c_does_commute (dCons (dIxA (dVar 1) (dVar 2)) (dCons (dIxA (dVar 1) (dVar 3)) dNil))))) sPass)
def c0_is_unlike_pair : List D → List O → R D := ar 4 (runF 4 n_is_unlike_pair)
def c_is_unlike_pair : List D → List O → R D := Den.apart c0_is_unlike_pair
theorem sc_is_unlike_pair : FnScope ["row", "others", "i", "j"] ["row", "others", "i", "j"] (defScope (topS 50)) := ⟨rfl, rfl, rfl, by decide +kernel, rfl, by decide +kernel, by decide +kernel⟩
theorem b_is_unlike_pair (M : MG T mg) (C_does_commute : CalG T P w mg base false 3 26 c_does_commute) (cdv : Value) (A : Around) (outer : List Env) (s : Shared) (H : Hp) (E : XK) (hr : Room 3 (A.deeper (envOfC "is_unlike_pair" (defScope (topS 50)) s.heap.objs.size (T.fad 38) cdv))) :
    SSs T (cxOf (L2.CX P w) P w T.K mg base ["row", "others", "i", "j"] "is_unlike_pair" (defScope (topS 50)) (T.fad 38) cdv A outer s H E) (WF E) (defBody (topS 50)) n_is_unlike_pair := by
  have nd := sc_is_unlike_pair.nd
  have he : Here (cxOf (L2.CX P w) P w T.K mg base ["row", "others", "i", "j"] "is_unlike_pair" (defScope (topS 50)) (T.fad 38) cdv A outer s H E) (WF E) false 3 := here_fn hr
  exact (sss_cons (ss_ret (se_cmp (od_ne rfl hr.units) (se_fnCall (calX (C_does_commute.mono (by decide))) he rfl M.f_does_commute (sa_cons (se_ixA rfl (se_var (i := 0) rfl (by first | exact Or.inl rfl | exact Or.inr (Or.inl rfl) | exact Or.inr (Or.inr rfl))) (se_var (i := 2) rfl (by first | exact Or.inl rfl | exact Or.inr (Or.inl rfl) | exact Or.inr (Or.inr rfl))) (fun _ _ => rfl)) (sa_cons (se_ixA rfl (se_var (i := 0) rfl (by first | exact Or.inl rfl | exact Or.inr (Or.inl rfl) | exact Or.inr (Or.inr rfl))) (se_var (i := 3) rfl (by first | exact Or.inl rfl | exact Or.inr (Or.inl rfl) | exact Or.inr (Or.inr rfl))) (fun _ _ => rfl)) sa_nil))) (se_fnCall (calX (C_does_commute.mono (by decide))) he rfl M.f_does_commute (sa_cons (se_ixA rfl (se_var (i := 1) rfl (by first | exact Or.inl rfl | exact Or.inr (Or.inl rfl) | exact Or.inr (Or.inr rfl))) (se_var (i := 2) rfl (by first | exact Or.inl rfl | exact Or.inr (Or.inl rfl) | exact Or.inr (Or.inr rfl))) (fun _ _ => rfl)) (sa_cons (se_ixA rfl (se_var (i := 1) rfl (by first | exact Or.inl rfl | exact Or.inr (Or.inl rfl) | exact Or.inr (Or.inr rfl))) (se_var (i := 3) rfl (by first | exact Or.inl rfl | exact Or.inr (Or.inl rfl) | exact Or.inr (Or.inr rfl))) (fun _ _ => rfl)) sa_nil))) (nomark _)))
    sss_nil)

theorem k_is_unlike_pair (M : MG T mg) (D0 : DefAt T "is_unlike_pair" "is_unlike_pair" (topS 50) 38 ["row", "others", "i", "j"]) (C_does_commute : CalG T P w mg base false 3 26 c_does_commute)  : CalG T P w mg base false 4 38 c_is_unlike_pair :=
  (cal_of D0 sc_is_unlike_pair fun cdv A outer s H E _ hr => b_is_unlike_pair M C_does_commute cdv A outer s H E hr).apart

/-! is_unlike_lot -/
def n_is_unlike_lot : DS := (sSeq (sAsg (dFn c_times_all (dCons (dLc [5] (jSeqA (dVar 2)) (gNm 5) dYes (dIxA (dVar 0) (dVar 5))) dNil)) (gNm 3)) (sSeq (sAsg (dFn c_times_all (dCons (dLc [5] (jSeqA (dVar 2)) (gNm 5) dYes (dIxA (dVar 1) (dVar 5))) dNil)) (gNm 4)) (sSeq (sRet (dAnd (dOp oNe (dVar 3) (dVar 4)) (dOr (dFn c_is_one (dCons (dIxA (dVar 3) (dC (.int 1))) dNil)) (dFn c_is_one (dCons (dIxA (dVar 4) (dC (.int 1))) dNil))))) sPass)))
def c0_is_unlike_lot : List D → List O → R D := ar 3 (runF 6 n_is_unlike_lot)
def c_is_unlike_lot : List D → List O → R D := Den.apart c0_is_unlike_lot
theorem sc_is_unlike_lot : FnScope ["row", "others", "indices", "one", "other", "at"] ["row", "others", "indices"] (defScope (topS 51)) := ⟨rfl, rfl, rfl, by decide +kernel, rfl, by decide +kernel, by decide +kernel⟩
theorem b_is_unlike_lot (M : MG T mg) (C_times_all : CalG T P w mg base false 3 29 c_times_all) (C_is_one : CalG T P w mg base false 1 37 c_is_one) (cdv : Value) (A : Around) (outer : List Env) (s : Shared) (H : Hp) (E : XK) (hr : Room 3 (A.deeper (envOfC "is_unlike_lot" (defScope (topS 51)) s.heap.objs.size (T.fad 39) cdv))) :
    SSs T (cxOf (L2.CX P w) P w T.K mg base ["row", "others", "indices", "one", "other", "at"] "is_unlike_lot" (defScope (topS 51)) (T.fad 39) cdv A outer s H E) (WF E) (defBody (topS 51)) n_is_unlike_lot := by
  have nd := sc_is_unlike_lot.nd
  have he : Here (cxOf (L2.CX P w) P w T.K mg base ["row", "others", "indices", "one", "other", "at"] "is_unlike_lot" (defScope (topS 51)) (T.fad 39) cdv A outer s H E) (WF E) false 3 := here_fn hr
  exact (sss_cons (ss_asg (se_fnCall (calX (C_times_all.mono (by decide))) he rfl M.f_times_all (sa_cons (se_lc (own := [("at", 5)]) rfl nd (sj_seqA rfl (se_var (i := 2) rfl (by first | exact Or.inl rfl | exact Or.inr (Or.inl rfl) | exact Or.inr (Or.inr rfl)))) (blkOk_by (N := ["row", "others", "indices", "one", "other", "at"]) (sc := defScope (topS 51)) (by decide +kernel)) (by decide) (fun _ _ _ _ _ => (sg_name (i := 5) nd rfl (by first | exact Or.inl rfl | exact Or.inr rfl) (by first | exact Or.inl rfl | exact Or.inr rfl))) (fun _ _ _ _ _ => spt_nil) (fun _ _ _ _ _ => (se_ixA rfl (se_var (i := 0) rfl (by first | exact Or.inl rfl | exact Or.inr (Or.inl rfl) | exact Or.inr (Or.inr rfl))) (se_var (i := 5) rfl (by first | exact Or.inl rfl | exact Or.inr (Or.inl rfl) | exact Or.inr (Or.inr rfl))) (fun _ _ => rfl)))) sa_nil)) (sg_name (i := 3) nd rfl (by first | exact Or.inl rfl | exact Or.inr rfl) (by first | exact Or.inl rfl | exact Or.inr rfl)))
    (sss_cons (ss_asg (se_fnCall (calX (C_times_all.mono (by decide))) he rfl M.f_times_all (sa_cons (se_lc (own := [("at", 5)]) rfl nd (sj_seqA rfl (se_var (i := 2) rfl (by first | exact Or.inl rfl | exact Or.inr (Or.inl rfl) | exact Or.inr (Or.inr rfl)))) (blkOk_by (N := ["row", "others", "indices", "one", "other", "at"]) (sc := defScope (topS 51)) (by decide +kernel)) (by decide) (fun _ _ _ _ _ => (sg_name (i := 5) nd rfl (by first | exact Or.inl rfl | exact Or.inr rfl) (by first | exact Or.inl rfl | exact Or.inr rfl))) (fun _ _ _ _ _ => spt_nil) (fun _ _ _ _ _ => (se_ixA rfl (se_var (i := 1) rfl (by first | exact Or.inl rfl | exact Or.inr (Or.inl rfl) | exact Or.inr (Or.inr rfl))) (se_var (i := 5) rfl (by first | exact Or.inl rfl | exact Or.inr (Or.inl rfl) | exact Or.inr (Or.inr rfl))) (fun _ _ => rfl)))) sa_nil)) (sg_name (i := 4) nd rfl (by first | exact Or.inl rfl | exact Or.inr rfl) (by first | exact Or.inl rfl | exact Or.inr rfl)))
    (sss_cons (ss_ret (se_and (se_cmp (od_ne rfl hr.units) (se_var (i := 3) rfl (by first | exact Or.inl rfl | exact Or.inr (Or.inl rfl) | exact Or.inr (Or.inr rfl))) (se_var (i := 4) rfl (by first | exact Or.inl rfl | exact Or.inr (Or.inl rfl) | exact Or.inr (Or.inr rfl))) (nomark _)) (se_one (se_or (se_fnCall (calX (C_is_one.mono (by decide))) he rfl M.f_is_one (sa_cons (se_ixA rfl (se_var (i := 3) rfl (by first | exact Or.inl rfl | exact Or.inr (Or.inl rfl) | exact Or.inr (Or.inr rfl))) se_int (fun _ _ => rfl)) sa_nil)) (se_one (se_fnCall (calX (C_is_one.mono (by decide))) he rfl M.f_is_one (sa_cons (se_ixA rfl (se_var (i := 4) rfl (by first | exact Or.inl rfl | exact Or.inr (Or.inl rfl) | exact Or.inr (Or.inr rfl))) se_int (fun _ _ => rfl)) sa_nil)))))))
    sss_nil)))

theorem k_is_unlike_lot (M : MG T mg) (D0 : DefAt T "is_unlike_lot" "is_unlike_lot" (topS 51) 39 ["row", "others", "indices"]) (C_times_all : CalG T P w mg base false 3 29 c_times_all) (C_is_one : CalG T P w mg base false 1 37 c_is_one)  : CalG T P w mg base false 4 39 c_is_unlike_lot :=
  (cal_of D0 sc_is_unlike_lot fun cdv A outer s H E _ hr => b_is_unlike_lot M C_times_all C_is_one cdv A outer s H E hr).apart

/-! bits_together -/
def n_bits_together : DS := (sSeq (sAsg (dFn c_letter_bits (dCons (dVar 0) dNil)) (gTpA 2 (gsCons (gNm 1) (gsCons (gNm 2) gsNil)))) (sSeq (sRet (dFn c_mask_of (dCons (dOp oAdd (dVar 1) (dVar 2)) dNil))) sPass))
def c0_bits_together : List D → List O → R D := ar 1 (runF 3 n_bits_together)
def c_bits_together : List D → List O → R D := Den.apart c0_bits_together
theorem sc_bits_together : FnScope ["operator", "firsts", "seconds"] ["operator"] (defScope (topS 52)) := ⟨rfl, rfl, rfl, by decide +kernel, rfl, by decide +kernel, by decide +kernel⟩
theorem b_bits_together (M : MG T mg) (C_letter_bits : CalG T P w mg base false 1 21 c_letter_bits) (C_mask_of : CalG T P w mg base false 1 6 c_mask_of) (cdv : Value) (A : Around) (outer : List Env) (s : Shared) (H : Hp) (E : XK) (hr : Room 1 (A.deeper (envOfC "bits_together" (defScope (topS 52)) s.heap.objs.size (T.fad 40) cdv))) :
    SSs T (cxOf (L2.CX P w) P w T.K mg base ["operator", "firsts", "seconds"] "bits_together" (defScope (topS 52)) (T.fad 40) cdv A outer s H E) (WF E) (defBody (topS 52)) n_bits_together := by
  have nd := sc_bits_together.nd
  have he : Here (cxOf (L2.CX P w) P w T.K mg base ["operator", "firsts", "seconds"] "bits_together" (defScope (topS 52)) (T.fad 40) cdv A outer s H E) (WF E) false 1 := here_fn hr
  exact (sss_cons (ss_asg (se_fnCall (calX (C_letter_bits.mono (by decide))) he rfl M.f_letter_bits (sa_cons (se_var (i := 0) rfl (by first | exact Or.inl rfl | exact Or.inr (Or.inl rfl) | exact Or.inr (Or.inr rfl))) sa_nil)) (sg_tupA rfl rfl (sgs_cons (sg_name (i := 1) nd rfl (by first | exact Or.inl rfl | exact Or.inr rfl) (by first | exact Or.inl rfl | exact Or.inr rfl)) (sgs_cons (sg_name (i := 2) nd rfl (by first | exact Or.inl rfl | exact Or.inr rfl) (by first | exact Or.inl rfl | exact Or.inr rfl)) sgs_nil)) rfl rfl))
    (sss_cons (ss_ret (se_fnCall (calX (C_mask_of.mono (by decide))) he rfl M.f_mask_of (sa_cons (se_op (od_add rfl) (se_var (i := 1) rfl (by first | exact Or.inl rfl | exact Or.inr (Or.inl rfl) | exact Or.inr (Or.inr rfl))) (se_var (i := 2) rfl (by first | exact Or.inl rfl | exact Or.inr (Or.inl rfl) | exact Or.inr (Or.inr rfl)))) sa_nil)))
    sss_nil))

theorem k_bits_together (M : MG T mg) (D0 : DefAt T "bits_together" "bits_together" (topS 52) 40 ["operator"]) (C_letter_bits : CalG T P w mg base false 1 21 c_letter_bits) (C_mask_of : CalG T P w mg base false 1 6 c_mask_of)  : CalG T P w mg base false 2 40 c_bits_together :=
  (cal_of D0 sc_bits_together fun cdv A outer s H E _ hr => b_bits_together M C_letter_bits C_mask_of cdv A outer s H E hr).apart

/-! relations -/
def n_relations : DS := (sSeq (sAsg (dFn c_put_apart (dCons (dLc [3] (jSeqA (dVar 0)) (gNm 3) dYes (dFn c_bits_together (dCons (dVar 3) dNil))) dNil)) (gTpA 2 (gsCons (gNm 1) (gsCons (gNm 2) gsNil)))) (sSeq (sRet (dVar 2)) sPass))
def c0_relations : List D → List O → R D := ar 1 (runF 4 n_relations)
def c_relations : List D → List O → R D := Den.apart c0_relations
theorem sc_relations : FnScope ["row", "_", "empty", "operator"] ["row"] (defScope (topS 53)) := ⟨rfl, rfl, rfl, by decide +kernel, rfl, by decide +kernel, by decide +kernel⟩
theorem b_relations (M : MG T mg) (C_put_apart : CalG T P w mg base false 2 12 c_put_apart) (C_bits_together : CalG T P w mg base false 2 40 c_bits_together) (cdv : Value) (A : Around) (outer : List Env) (s : Shared) (H : Hp) (E : XK) (hr : Room 2 (A.deeper (envOfC "relations" (defScope (topS 53)) s.heap.objs.size (T.fad 41) cdv))) :
    SSs T (cxOf (L2.CX P w) P w T.K mg base ["row", "_", "empty", "operator"] "relations" (defScope (topS 53)) (T.fad 41) cdv A outer s H E) (WF E) (defBody (topS 53)) n_relations := by
  have nd := sc_relations.nd
  have he : Here (cxOf (L2.CX P w) P w T.K mg base ["row", "_", "empty", "operator"] "relations" (defScope (topS 53)) (T.fad 41) cdv A outer s H E) (WF E) false 2 := here_fn hr
  exact (sss_cons (ss_asg (se_fnCall (calX (C_put_apart.mono (by decide))) he rfl M.f_put_apart (sa_cons (se_lc (own := [("operator", 3)]) rfl nd (sj_seqA rfl (se_var (i := 0) rfl (by first | exact Or.inl rfl | exact Or.inr (Or.inl rfl) | exact Or.inr (Or.inr rfl)))) (blkOk_by (N := ["row", "_", "empty", "operator"]) (sc := defScope (topS 53)) (by decide +kernel)) (by decide) (fun _ _ _ _ _ => (sg_name (i := 3) nd rfl (by first | exact Or.inl rfl | exact Or.inr rfl) (by first | exact Or.inl rfl | exact Or.inr rfl))) (fun _ _ _ _ _ => spt_nil) (fun _ _ _ _ _ => have he := here_blk he; (se_fnCall (calX (C_bits_together.mono (by decide))) he rfl M.f_bits_together (sa_cons (se_var (i := 3) rfl (by first | exact Or.inl rfl | exact Or.inr (Or.inl rfl) | exact Or.inr (Or.inr rfl))) sa_nil)))) sa_nil)) (sg_tupA rfl rfl (sgs_cons (sg_name (i := 1) nd rfl (by first | exact Or.inl rfl | exact Or.inr rfl) (by first | exact Or.inl rfl | exact Or.inr rfl)) (sgs_cons (sg_name (i := 2) nd rfl (by first | exact Or.inl rfl | exact Or.inr rfl) (by first | exact Or.inl rfl | exact Or.inr rfl)) sgs_nil)) rfl rfl))
    (sss_cons (ss_ret (se_var (i := 2) rfl (by first | exact Or.inl rfl | exact Or.inr (Or.inl rfl) | exact Or.inr (Or.inr rfl))))
    sss_nil))

theorem k_relations (M : MG T mg) (D0 : DefAt T "relations" "relations" (topS 53) 41 ["row"]) (C_put_apart : CalG T P w mg base false 2 12 c_put_apart) (C_bits_together : CalG T P w mg base false 2 40 c_bits_together)  : CalG T P w mg base false 3 41 c_relations :=
  (cal_of D0 sc_relations fun cdv A outer s H E _ hr => b_relations M C_put_apart C_bits_together cdv A outer s H E hr).apart

/-! some_unlike -/
def n_some_unlike : DS := (sSeq (sFor (jSeqA (dFn c_pairs_below (dCons (dCall bLen (dCons (dVar 0) dNil)) dNil))) (gTpA 2 (gsCons (gNm 2) (gsCons (gNm 3) gsNil))) (sSeq (sIf (dTru (dFn c_is_unlike_pair (dCons (dVar 0) (dCons (dVar 1) (dCons (dVar 2) (dCons (dVar 3) dNil)))))) (sSeq (sRet (dTup (dCons (dC (.str "pair")) (dCons (dVar 2) (dCons (dVar 3) dNil))))) sPass) sPass) sPass)) (sSeq (sFor (jSeqA (dOp oAdd (dFn c_relations (dCons (dVar 0) dNil)) (dFn c_relations (dCons (dVar 1) dNil)))) (gNm 4) (sSeq (sIf (dTru (dFn c_is_unlike_lot (dCons (dVar 0) (dCons (dVar 1) (dCons (dFn c_places_of (dCons (dVar 4) dNil)) dNil))))) (sSeq (sRet (dTup (dCons (dC (.str "lot")) (dCons (dFn c_places_of (dCons (dVar 4) dNil)) dNil)))) sPass) sPass) sPass)) (sSeq (sRet (dC .non)) sPass)))
def c0_some_unlike : List D → List O → R D := ar 2 (runF 5 n_some_unlike)
def c_some_unlike : List D → List O → R D := Den.apart c0_some_unlike
theorem sc_some_unlike : FnScope ["row", "others", "i", "j", "pick"] ["row", "others"] (defScope (topS 54)) := ⟨rfl, rfl, rfl, by decide +kernel, rfl, by decide +kernel, by decide +kernel⟩
theorem b_some_unlike (M : MG T mg) (C_pairs_below : CalG T P w mg base false 2 15 c_pairs_below) (C_is_unlike_pair : CalG T P w mg base false 4 38 c_is_unlike_pair) (C_relations : CalG T P w mg base false 3 41 c_relations) (C_is_unlike_lot : CalG T P w mg base false 4 39 c_is_unlike_lot) (C_places_of : CalG T P w mg base false 1 8 c_places_of) (cdv : Value) (A : Around) (outer : List Env) (s : Shared) (H : Hp) (E : XK) (hr : Room 4 (A.deeper (envOfC "some_unlike" (defScope (topS 54)) s.heap.objs.size (T.fad 42) cdv))) :
    SSs T (cxOf (L2.CX P w) P w T.K mg base ["row", "others", "i", "j", "pick"] "some_unlike" (defScope (topS 54)) (T.fad 42) cdv A outer s H E) (WF E) (defBody (topS 54)) n_some_unlike := by
  have nd := sc_some_unlike.nd
  have he : Here (cxOf (L2.CX P w) P w T.K mg base ["row", "others", "i", "j", "pick"] "some_unlike" (defScope (topS 54)) (T.fad 42) cdv A outer s H E) (WF E) false 4 := here_fn hr
  exact (sss_cons (ss_for pas_fn rfl (sj_seqA rfl (se_fnCall (calX (C_pairs_below.mono (by decide))) he rfl M.f_pairs_below (sa_cons (se_callB (bd_len rfl) rfl M.b_len bt_len (sa_cons (se_var (i := 0) rfl (by first | exact Or.inl rfl | exact Or.inr (Or.inl rfl) | exact Or.inr (Or.inr rfl))) sa_nil)) sa_nil))) (sg_tupA rfl rfl (sgs_cons (sg_name (i := 2) nd rfl (by first | exact Or.inl rfl | exact Or.inr rfl) (by first | exact Or.inl rfl | exact Or.inr rfl)) (sgs_cons (sg_name (i := 3) nd rfl (by first | exact Or.inl rfl | exact Or.inr rfl) (by first | exact Or.inl rfl | exact Or.inr rfl)) sgs_nil)) rfl rfl) ((sss_cons (ss_if (st_tru rfl (se_fnCall (calX (C_is_unlike_pair.mono (by decide))) he rfl M.f_is_unlike_pair (sa_cons (se_var (i := 0) rfl (by first | exact Or.inl rfl | exact Or.inr (Or.inl rfl) | exact Or.inr (Or.inr rfl))) (sa_cons (se_var (i := 1) rfl (by first | exact Or.inl rfl | exact Or.inr (Or.inl rfl) | exact Or.inr (Or.inr rfl))) (sa_cons (se_var (i := 2) rfl (by first | exact Or.inl rfl | exact Or.inr (Or.inl rfl) | exact Or.inr (Or.inr rfl))) (sa_cons (se_var (i := 3) rfl (by first | exact Or.inl rfl | exact Or.inr (Or.inl rfl) | exact Or.inr (Or.inr rfl))) sa_nil)))))) ((sss_cons (ss_ret (se_tup (sa_cons se_str (sa_cons (se_var (i := 2) rfl (by first | exact Or.inl rfl | exact Or.inr (Or.inl rfl) | exact Or.inr (Or.inr rfl))) (sa_cons (se_var (i := 3) rfl (by first | exact Or.inl rfl | exact Or.inr (Or.inl rfl) | exact Or.inr (Or.inr rfl))) sa_nil)))))
    sss_nil)) (sss_nil))
    sss_nil)))
    (sss_cons (ss_for pas_fn rfl (sj_seqA rfl (se_op (od_add rfl) (se_fnCall (calX (C_relations.mono (by decide))) he rfl M.f_relations (sa_cons (se_var (i := 0) rfl (by first | exact Or.inl rfl | exact Or.inr (Or.inl rfl) | exact Or.inr (Or.inr rfl))) sa_nil)) (se_fnCall (calX (C_relations.mono (by decide))) he rfl M.f_relations (sa_cons (se_var (i := 1) rfl (by first | exact Or.inl rfl | exact Or.inr (Or.inl rfl) | exact Or.inr (Or.inr rfl))) sa_nil)))) (sg_name (i := 4) nd rfl (by first | exact Or.inl rfl | exact Or.inr rfl) (by first | exact Or.inl rfl | exact Or.inr rfl)) ((sss_cons (ss_if (st_tru rfl (se_fnCall (calX (C_is_unlike_lot.mono (by decide))) he rfl M.f_is_unlike_lot (sa_cons (se_var (i := 0) rfl (by first | exact Or.inl rfl | exact Or.inr (Or.inl rfl) | exact Or.inr (Or.inr rfl))) (sa_cons (se_var (i := 1) rfl (by first | exact Or.inl rfl | exact Or.inr (Or.inl rfl) | exact Or.inr (Or.inr rfl))) (sa_cons (se_fnCall (calX (C_places_of.mono (by decide))) he rfl M.f_places_of (sa_cons (se_var (i := 4) rfl (by first | exact Or.inl rfl | exact Or.inr (Or.inl rfl) | exact Or.inr (Or.inr rfl))) sa_nil)) sa_nil))))) ((sss_cons (ss_ret (se_tup (sa_cons se_str (sa_cons (se_fnCall (calX (C_places_of.mono (by decide))) he rfl M.f_places_of (sa_cons (se_var (i := 4) rfl (by first | exact Or.inl rfl | exact Or.inr (Or.inl rfl) | exact Or.inr (Or.inr rfl))) sa_nil)) sa_nil))))
    sss_nil)) (sss_nil))
    sss_nil)))
    (sss_cons (ss_ret se_non)
    sss_nil)))

theorem k_some_unlike (M : MG T mg) (D0 : DefAt T "some_unlike" "some_unlike" (topS 54) 42 ["row", "others"]) (C_pairs_below : CalG T P w mg base false 2 15 c_pairs_below) (C_is_unlike_pair : CalG T P w mg base false 4 38 c_is_unlike_pair) (C_relations : CalG T P w mg base false 3 41 c_relations) (C_is_unlike_lot : CalG T P w mg base false 4 39 c_is_unlike_lot) (C_places_of : CalG T P w mg base false 1 8 c_places_of)  : CalG T P w mg base false 5 42 c_some_unlike :=
  (cal_of D0 sc_some_unlike fun cdv A outer s H E _ hr => b_some_unlike M C_pairs_below C_is_unlike_pair C_relations C_is_unlike_lot C_places_of cdv A outer s H E hr).apart

/-! letters_apart -/
def n_letters_apart : DS := (sSeq (sAsg (dOp oSub (dCall bLen (dCons (dIxA (dVar 0) (dC (.int 0))) dNil)) (dC (.int 1))) (gNm 2)) (sSeq (sAsg (dLc [7] (jSeqA (dVar 0)) (gNm 7) dYes (dFn c_letter_bits (dCons (dVar 7) dNil))) (gNm 3)) (sSeq (sAsg (dFn c_solved_masks (dCons (dLc [8, 9] (jSeqA (dVar 3)) (gTpA 2 (gsCons (gNm 8) (gsCons (gNm 9) gsNil))) dYes (dFn c_mask_of (dCons (dOp oAdd (dVar 9) (dVar 8)) dNil))) (dCons (dFn c_pick_where (dCons (dVar 1) dNil)) dNil))) (gTpA 2 (gsCons (gNm 4) (gsCons (gNm 5) gsNil)))) (sSeq (sAsg (dFn c_row_of (dCons (dVar 5) (dCons (dOp oMultA (dC (.int 2)) (dVar 2)) dNil))) (gNm 6)) (sSeq (sRet (dOp oAdd (dC (.str "+")) (dFn c_letters_of (dCons (dSlA (dVar 6) dNo (dSo (dVar 2))) (dCons (dSlA (dVar 6) (dSo (dVar 2)) dNo) dNil))))) sPass)))))
def c0_letters_apart : List D → List O → R D := ar 2 (runF 10 n_letters_apart)
def c_letters_apart : List D → List O → R D := Den.apart c0_letters_apart
theorem sc_letters_apart : FnScope ["operators", "bits", "length", "halves", "_", "found", "row", "operator", "firsts", "seconds"] ["operators", "bits"] (defScope (topS 55)) := ⟨rfl, rfl, rfl, by decide +kernel, rfl, by decide +kernel, by decide +kernel⟩
theorem b_letters_apart (M : MG T mg) (C_letter_bits : CalG T P w mg base false 1 21 c_letter_bits) (C_solved_masks : CalG T P w mg base false 3 13 c_solved_masks) (C_pick_where : CalG T P w mg base false 1 9 c_pick_where) (C_mask_of : CalG T P w mg base false 1 6 c_mask_of) (C_row_of : CalG T P w mg base false 1 7 c_row_of) (C_letters_of : CalG T P w mg base false 1 22 c_letters_of) (cdv : Value) (A : Around) (outer : List Env) (s : Shared) (H : Hp) (E : XK) (hr : Room 3 (A.deeper (envOfC "letters_apart" (defScope (topS 55)) s.heap.objs.size (T.fad 43) cdv))) :
    SSs T (cxOf (L2.CX P w) P w T.K mg base ["operators", "bits", "length", "halves", "_", "found", "row", "operator", "firsts", "seconds"] "letters_apart" (defScope (topS 55)) (T.fad 43) cdv A outer s H E) (WF E) (defBody (topS 55)) n_letters_apart := by
  have nd := sc_letters_apart.nd
  have he : Here (cxOf (L2.CX P w) P w T.K mg base ["operators", "bits", "length", "halves", "_", "found", "row", "operator", "firsts", "seconds"] "letters_apart" (defScope (topS 55)) (T.fad 43) cdv A outer s H E) (WF E) false 3 := here_fn hr
  exact (sss_cons (ss_asg (se_op od_sub (se_callB (bd_len rfl) rfl M.b_len bt_len (sa_cons (se_ixA rfl (se_var (i := 0) rfl (by first | exact Or.inl rfl | exact Or.inr (Or.inl rfl) | exact Or.inr (Or.inr rfl))) se_int (fun _ _ => rfl)) sa_nil)) se_int) (sg_name (i := 2) nd rfl (by first | exact Or.inl rfl | exact Or.inr rfl) (by first | exact Or.inl rfl | exact Or.inr rfl)))
    (sss_cons (by first | exact ss_setLc (own := [("operator", 7)]) (i := 3) rfl nd rfl rfl rfl (sj_seqA rfl (se_var (i := 0) rfl (by first | exact Or.inl rfl | exact Or.inr (Or.inl rfl) | exact Or.inr (Or.inr rfl)))) (blkOk_by (N := ["operators", "bits", "length", "halves", "_", "found", "row", "operator", "firsts", "seconds"]) (sc := defScope (topS 55)) (by decide +kernel)) (by decide) (fun _ _ _ _ _ => (sg_name (i := 7) nd rfl (by first | exact Or.inl rfl | exact Or.inr rfl) (by first | exact Or.inl rfl | exact Or.inr rfl))) (fun _ _ _ _ _ => spt_nil) (fun _ _ _ _ _ => have he := here_blk he; (se_fnCall (calX (C_letter_bits.mono (by decide))) he rfl M.f_letter_bits (sa_cons (se_var (i := 7) rfl (by first | exact Or.inl rfl | exact Or.inr (Or.inl rfl) | exact Or.inr (Or.inr rfl))) sa_nil))) | exact ss_asg (se_lc (own := [("operator", 7)]) rfl nd (sj_seqA rfl (se_var (i := 0) rfl (by first | exact Or.inl rfl | exact Or.inr (Or.inl rfl) | exact Or.inr (Or.inr rfl)))) (blkOk_by (N := ["operators", "bits", "length", "halves", "_", "found", "row", "operator", "firsts", "seconds"]) (sc := defScope (topS 55)) (by decide +kernel)) (by decide) (fun _ _ _ _ _ => (sg_name (i := 7) nd rfl (by first | exact Or.inl rfl | exact Or.inr rfl) (by first | exact Or.inl rfl | exact Or.inr rfl))) (fun _ _ _ _ _ => spt_nil) (fun _ _ _ _ _ => have he := here_blk he; (se_fnCall (calX (C_letter_bits.mono (by decide))) he rfl M.f_letter_bits (sa_cons (se_var (i := 7) rfl (by first | exact Or.inl rfl | exact Or.inr (Or.inl rfl) | exact Or.inr (Or.inr rfl))) sa_nil)))) (sg_name (i := 3) nd rfl (by first | exact Or.inl rfl | exact Or.inr rfl) (by first | exact Or.inl rfl | exact Or.inr rfl)))
    (sss_cons (ss_asg (se_fnCall (calX (C_solved_masks.mono (by decide))) he rfl M.f_solved_masks (sa_cons (se_lc (own := [("firsts", 8), ("seconds", 9)]) rfl nd (sj_seqA rfl (se_var (i := 3) rfl (by first | exact Or.inl rfl | exact Or.inr (Or.inl rfl) | exact Or.inr (Or.inr rfl)))) (blkOk_by (N := ["operators", "bits", "length", "halves", "_", "found", "row", "operator", "firsts", "seconds"]) (sc := defScope (topS 55)) (by decide +kernel)) (by decide) (fun _ _ _ _ _ => (sg_tupA rfl rfl (sgs_cons (sg_name (i := 8) nd rfl (by first | exact Or.inl rfl | exact Or.inr rfl) (by first | exact Or.inl rfl | exact Or.inr rfl)) (sgs_cons (sg_name (i := 9) nd rfl (by first | exact Or.inl rfl | exact Or.inr rfl) (by first | exact Or.inl rfl | exact Or.inr rfl)) sgs_nil)) rfl rfl)) (fun _ _ _ _ _ => spt_nil) (fun _ _ _ _ _ => have he := here_blk he; (se_fnCall (calX (C_mask_of.mono (by decide))) he rfl M.f_mask_of (sa_cons (se_op (od_add rfl) (se_var (i := 9) rfl (by first | exact Or.inl rfl | exact Or.inr (Or.inl rfl) | exact Or.inr (Or.inr rfl))) (se_var (i := 8) rfl (by first | exact Or.inl rfl | exact Or.inr (Or.inl rfl) | exact Or.inr (Or.inr rfl)))) sa_nil)))) (sa_cons (se_fnCall (calX (C_pick_where.mono (by decide))) he rfl M.f_pick_where (sa_cons (se_var (i := 1) rfl (by first | exact Or.inl rfl | exact Or.inr (Or.inl rfl) | exact Or.inr (Or.inr rfl))) sa_nil)) sa_nil))) (sg_tupA rfl rfl (sgs_cons (sg_name (i := 4) nd rfl (by first | exact Or.inl rfl | exact Or.inr rfl) (by first | exact Or.inl rfl | exact Or.inr rfl)) (sgs_cons (sg_name (i := 5) nd rfl (by first | exact Or.inl rfl | exact Or.inr rfl) (by first | exact Or.inl rfl | exact Or.inr rfl)) sgs_nil)) rfl rfl))
    (sss_cons (ss_asg (se_fnCall (calX (C_row_of.mono (by decide))) he rfl M.f_row_of (sa_cons (se_var (i := 5) rfl (by first | exact Or.inl rfl | exact Or.inr (Or.inl rfl) | exact Or.inr (Or.inr rfl))) (sa_cons (se_op (od_multA rfl) se_int (se_var (i := 2) rfl (by first | exact Or.inl rfl | exact Or.inr (Or.inl rfl) | exact Or.inr (Or.inr rfl)))) sa_nil))) (sg_name (i := 6) nd rfl (by first | exact Or.inl rfl | exact Or.inr rfl) (by first | exact Or.inl rfl | exact Or.inr rfl)))
    (sss_cons (ss_ret (se_op (od_add rfl) se_str (se_fnCall (calX (C_letters_of.mono (by decide))) he rfl M.f_letters_of (sa_cons (se_slA rfl (se_var (i := 6) rfl (by first | exact Or.inl rfl | exact Or.inr (Or.inl rfl) | exact Or.inr (Or.inr rfl))) so_none (so_some (se_var (i := 2) rfl (by first | exact Or.inl rfl | exact Or.inr (Or.inl rfl) | exact Or.inr (Or.inr rfl))))) (sa_cons (se_slA rfl (se_var (i := 6) rfl (by first | exact Or.inl rfl | exact Or.inr (Or.inl rfl) | exact Or.inr (Or.inr rfl))) (so_some (se_var (i := 2) rfl (by first | exact Or.inl rfl | exact Or.inr (Or.inl rfl) | exact Or.inr (Or.inr rfl)))) so_none) sa_nil)))))
    sss_nil)))))

theorem k_letters_apart (M : MG T mg) (D0 : DefAt T "letters_apart" "letters_apart" (topS 55) 43 ["operators", "bits"]) (C_letter_bits : CalG T P w mg base false 1 21 c_letter_bits) (C_solved_masks : CalG T P w mg base false 3 13 c_solved_masks) (C_pick_where : CalG T P w mg base false 1 9 c_pick_where) (C_mask_of : CalG T P w mg base false 1 6 c_mask_of) (C_row_of : CalG T P w mg base false 1 7 c_row_of) (C_letters_of : CalG T P w mg base false 1 22 c_letters_of)  : CalG T P w mg base false 4 43 c_letters_apart :=
  (cal_of D0 sc_letters_apart fun cdv A outer s H E _ hr => b_letters_apart M C_letter_bits C_solved_masks C_pick_where C_mask_of C_row_of C_letters_of cdv A outer s H E hr).apart

/-! turns_to -/
def n_turns_to : DS := (sSeq (sIf (dTest (dOp oEq (dSlA (dVar 0) (dSo (dC (.int 1))) dNo) (dSlA (dVar 1) (dSo (dC (.int 1))) dNo))) (sSeq (sRet (dLst dNil)) sPass) sPass) (sSeq (sIf (dNotT (dTru (dFn c_does_commute (dCons (dVar 0) (dCons (dVar 1) dNil))))) (sSeq (sRet (dLst (dCons (dIxA (dFn c_times_all (dCons (dLst (dCons (dVar 0) (dCons (dVar 1) dNil))) dNil)) (dC (.int 1))) dNil))) sPass) sPass) (sSeq (sAsg (dOp oAdd (dLst (dCons (dC (.int 1)) (dCons (dC (.int 1)) dNil))) (dLc [5] (jSeqA (dVar 2)) (gNm 5) dYes (dCall bInt (dCons (dNot (dFn c_does_commute (dCons (dVar 0) (dCons (dVar 5) dNil)))) dNil)))) (gNm 3)) (sSeq (sAsg (dFn c_letters_apart (dCons (dLst (dCons (dVar 0) (dCons (dVar 1) (dStar (dVar 2) dNil)))) (dCons (dVar 3) dNil))) (gNm 4)) (sSeq (sRet (dLst (dCons (dIxA (dFn c_times_all (dCons (dLst (dCons (dVar 0) (dCons (dVar 4) dNil))) dNil)) (dC (.int 1))) (dCons (dIxA (dFn c_times_all (dCons (dLst (dCons (dVar 4) (dCons (dVar 1) dNil))) dNil)) (dC (.int 1))) dNil)))) sPass)))))
def c0_turns_to : List D → List O → R D := ar 3 (runF 6 n_turns_to)
def c_turns_to : List D → List O → R D := Den.apart c0_turns_to
theorem sc_turns_to : FnScope ["here", "there", "ahead", "bits", "between", "operator"] ["here", "there", "ahead"] (defScope (topS 56)) := ⟨rfl, rfl, rfl, by decide +kernel, rfl, by decide +kernel, by decide +kernel⟩
theorem b_turns_to (M : MG T mg) (C_does_commute : CalG T P w mg base false 3 26 c_does_commute) (C_times_all : CalG T P w mg base false 3 29 c_times_all) (C_letters_apart : CalG T P w mg base false 4 43 c_letters_apart) (cdv : Value) (A : Around) (outer : List Env) (s : Shared) (H : Hp) (E : XK) (hr : Room 4 (A.deeper (envOfC "turns_to" (defScope (topS 56)) s.heap.objs.size (T.fad 44) cdv))) :
    SSs T (cxOf (L2.CX P w) P w T.K mg base ["here", "there", "ahead", "bits", "between", "operator"] "turns_to" (defScope (topS 56)) (T.fad 44) cdv A outer s H E) (WF E) (defBody (topS 56)) n_turns_to := by
  have nd := sc_turns_to.nd
  have he : Here (cxOf (L2.CX P w) P w T.K mg base ["here", "there", "ahead", "bits", "between", "operator"] "turns_to" (defScope (topS 56)) (T.fad 44) cdv A outer s H E) (WF E) false 4 := here_fn hr
  exact (sss_cons (ss_if (st_cmp (od_eq rfl hr.units) (se_slA rfl (se_var (i := 0) rfl (by first | exact Or.inl rfl | exact Or.inr (Or.inl rfl) | exact Or.inr (Or.inr rfl))) (so_some se_int) so_none) (se_slA rfl (se_var (i := 1) rfl (by first | exact Or.inl rfl | exact Or.inr (Or.inl rfl) | exact Or.inr (Or.inr rfl))) (so_some se_int) so_none) (nomark _)) ((sss_cons (ss_ret (se_lst sa_nil))
    sss_nil)) (sss_nil))
    (sss_cons (ss_if (st_not (st_tru rfl (se_fnCall (calX (C_does_commute.mono (by decide))) he rfl M.f_does_commute (sa_cons (se_var (i := 0) rfl (by first | exact Or.inl rfl | exact Or.inr (Or.inl rfl) | exact Or.inr (Or.inr rfl))) (sa_cons (se_var (i := 1) rfl (by first | exact Or.inl rfl | exact Or.inr (Or.inl rfl) | exact Or.inr (Or.inr rfl))) sa_nil))))) ((sss_cons (ss_ret (se_lst (sa_cons (se_ixA rfl (se_fnCall (calX (C_times_all.mono (by decide))) he rfl M.f_times_all (sa_cons (se_lst (sa_cons (se_var (i := 0) rfl (by first | exact Or.inl rfl | exact Or.inr (Or.inl rfl) | exact Or.inr (Or.inr rfl))) (sa_cons (se_var (i := 1) rfl (by first | exact Or.inl rfl | exact Or.inr (Or.inl rfl) | exact Or.inr (Or.inr rfl))) sa_nil))) sa_nil)) se_int (fun _ _ => rfl)) sa_nil)))
    sss_nil)) (sss_nil))
    (sss_cons (ss_asg (se_op (od_add rfl) (se_lst (sa_cons se_int (sa_cons se_int sa_nil))) (se_lc (own := [("operator", 5)]) rfl nd (sj_seqA rfl (se_var (i := 2) rfl (by first | exact Or.inl rfl | exact Or.inr (Or.inl rfl) | exact Or.inr (Or.inr rfl)))) (blkOk_by (N := ["here", "there", "ahead", "bits", "between", "operator"]) (sc := defScope (topS 56)) (by decide +kernel)) (by decide) (fun _ _ _ _ _ => (sg_name (i := 5) nd rfl (by first | exact Or.inl rfl | exact Or.inr rfl) (by first | exact Or.inl rfl | exact Or.inr rfl))) (fun _ _ _ _ _ => spt_nil) (fun _ _ _ _ _ => have he := here_blk he; (se_callT bd_int rfl M.b_int bt_int (sa_cons (se_not (se_fnCall (calX (C_does_commute.mono (by decide))) he rfl M.f_does_commute (sa_cons (se_var (i := 0) rfl (by first | exact Or.inl rfl | exact Or.inr (Or.inl rfl) | exact Or.inr (Or.inr rfl))) (sa_cons (se_var (i := 5) rfl (by first | exact Or.inl rfl | exact Or.inr (Or.inl rfl) | exact Or.inr (Or.inr rfl))) sa_nil)))) sa_nil))))) (sg_name (i := 3) nd rfl (by first | exact Or.inl rfl | exact Or.inr rfl) (by first | exact Or.inl rfl | exact Or.inr rfl)))
    (sss_cons (ss_asg (se_fnCall (calX (C_letters_apart.mono (by decide))) he rfl M.f_letters_apart (sa_cons (se_lst (sa_cons (se_var (i := 0) rfl (by first | exact Or.inl rfl | exact Or.inr (Or.inl rfl) | exact Or.inr (Or.inr rfl))) (sa_cons (se_var (i := 1) rfl (by first | exact Or.inl rfl | exact Or.inr (Or.inl rfl) | exact Or.inr (Or.inr rfl))) (sa_star rfl (se_var (i := 2) rfl (by first | exact Or.inl rfl | exact Or.inr (Or.inl rfl) | exact Or.inr (Or.inr rfl))) sa_nil)))) (sa_cons (se_var (i := 3) rfl (by first | exact Or.inl rfl | exact Or.inr (Or.inl rfl) | exact Or.inr (Or.inr rfl))) sa_nil))) (sg_name (i := 4) nd rfl (by first | exact Or.inl rfl | exact Or.inr rfl) (by first | exact Or.inl rfl | exact Or.inr rfl)))
    (sss_cons (ss_ret (se_lst (sa_cons (se_ixA rfl (se_fnCall (calX (C_times_all.mono (by decide))) he rfl M.f_times_all (sa_cons (se_lst (sa_cons (se_var (i := 0) rfl (by first | exact Or.inl rfl | exact Or.inr (Or.inl rfl) | exact Or.inr (Or.inr rfl))) (sa_cons (se_var (i := 4) rfl (by first | exact Or.inl rfl | exact Or.inr (Or.inl rfl) | exact Or.inr (Or.inr rfl))) sa_nil))) sa_nil)) se_int (fun _ _ => rfl)) (sa_cons (se_ixA rfl (se_fnCall (calX (C_times_all.mono (by decide))) he rfl M.f_times_all (sa_cons (se_lst (sa_cons (se_var (i := 4) rfl (by first | exact Or.inl rfl | exact Or.inr (Or.inl rfl) | exact Or.inr (Or.inr rfl))) (sa_cons (se_var (i := 1) rfl (by first | exact Or.inl rfl | exact Or.inr (Or.inl rfl) | exact Or.inr (Or.inr rfl))) sa_nil))) sa_nil)) se_int (fun _ _ => rfl)) sa_nil))))
    sss_nil)))))

theorem k_turns_to (M : MG T mg) (D0 : DefAt T "turns_to" "turns_to" (topS 56) 44 ["here", "there", "ahead"]) (C_does_commute : CalG T P w mg base false 3 26 c_does_commute) (C_times_all : CalG T P w mg base false 3 29 c_times_all) (C_letters_apart : CalG T P w mg base false 4 43 c_letters_apart)  : CalG T P w mg base false 5 44 c_turns_to :=
  (cal_of D0 sc_turns_to fun cdv A outer s H E _ hr => b_turns_to M C_does_commute C_times_all C_letters_apart cdv A outer s H E hr).apart

/-! led_by -/
def n_led_by : DS := (sSeq (sAsg (dCall bLst (dCons (dVar 0) dNil)) (gNm 2)) (sSeq (sFor (jSeqA (dVar 1)) (gNm 3) (sSeq (sAsg (dLc [4] (jSeqA (dVar 2)) (gNm 4) dYes (dFn c_turned_by (dCons (dVar 4) (dCons (dVar 3) dNil)))) (gNm 2)) sPass)) (sSeq (sRet (dCall bTup (dCons (dVar 2) dNil))) sPass)))
def c0_led_by : List D → List O → R D := ar 2 (runF 5 n_led_by)
def c_led_by : List D → List O → R D := Den.apart c0_led_by
theorem sc_led_by : FnScope ["row", "turns", "found", "by", "operator"] ["row", "turns"] (defScope (topS 57)) := ⟨rfl, rfl, rfl, by decide +kernel, rfl, by decide +kernel, by decide +kernel⟩
theorem b_led_by (M : MG T mg) (C_turned_by : CalG T P w mg base false 4 35 c_turned_by) (cdv : Value) (A : Around) (outer : List Env) (s : Shared) (H : Hp) (E : XK) (hr : Room 4 (A.deeper (envOfC "led_by" (defScope (topS 57)) s.heap.objs.size (T.fad 45) cdv))) :
    SSs T (cxOf (L2.CX P w) P w T.K mg base ["row", "turns", "found", "by", "operator"] "led_by" (defScope (topS 57)) (T.fad 45) cdv A outer s H E) (WF E) (defBody (topS 57)) n_led_by := by
  have nd := sc_led_by.nd
  have he : Here (cxOf (L2.CX P w) P w T.K mg base ["row", "turns", "found", "by", "operator"] "led_by" (defScope (topS 57)) (T.fad 45) cdv A outer s H E) (WF E) false 4 := here_fn hr
  exact (sss_cons (ss_asg (se_callT (bd_lst rfl) rfl M.b_list bt_list (sa_cons (se_var (i := 0) rfl (by first | exact Or.inl rfl | exact Or.inr (Or.inl rfl) | exact Or.inr (Or.inr rfl))) sa_nil)) (sg_name (i := 2) nd rfl (by first | exact Or.inl rfl | exact Or.inr rfl) (by first | exact Or.inl rfl | exact Or.inr rfl)))
    (sss_cons (ss_for pas_fn rfl (sj_seqA rfl (se_var (i := 1) rfl (by first | exact Or.inl rfl | exact Or.inr (Or.inl rfl) | exact Or.inr (Or.inr rfl)))) (sg_name (i := 3) nd rfl (by first | exact Or.inl rfl | exact Or.inr rfl) (by first | exact Or.inl rfl | exact Or.inr rfl)) ((sss_cons (by first | exact ss_setLc (own := [("operator", 4)]) (i := 2) rfl nd rfl rfl rfl (sj_seqA rfl (se_var (i := 2) rfl (by first | exact Or.inl rfl | exact Or.inr (Or.inl rfl) | exact Or.inr (Or.inr rfl)))) (blkOk_by (N := ["row", "turns", "found", "by", "operator"]) (sc := defScope (topS 57)) (by decide +kernel)) (by decide) (fun _ _ _ _ _ => (sg_name (i := 4) nd rfl (by first | exact Or.inl rfl | exact Or.inr rfl) (by first | exact Or.inl rfl | exact Or.inr rfl))) (fun _ _ _ _ _ => spt_nil) (fun _ _ _ _ _ => have he := here_blk he; (se_fnCall (calX (C_turned_by.mono (by decide))) he rfl M.f_turned_by (sa_cons (se_var (i := 4) rfl (by first | exact Or.inl rfl | exact Or.inr (Or.inl rfl) | exact Or.inr (Or.inr rfl))) (sa_cons (se_var (i := 3) rfl (by first | exact Or.inl rfl | exact Or.inr (Or.inl rfl) | exact Or.inr (Or.inr rfl))) sa_nil)))) | exact ss_asg (se_lc (own := [("operator", 4)]) rfl nd (sj_seqA rfl (se_var (i := 2) rfl (by first | exact Or.inl rfl | exact Or.inr (Or.inl rfl) | exact Or.inr (Or.inr rfl)))) (blkOk_by (N := ["row", "turns", "found", "by", "operator"]) (sc := defScope (topS 57)) (by decide +kernel)) (by decide) (fun _ _ _ _ _ => (sg_name (i := 4) nd rfl (by first | exact Or.inl rfl | exact Or.inr rfl) (by first | exact Or.inl rfl | exact Or.inr rfl))) (fun _ _ _ _ _ => spt_nil) (fun _ _ _ _ _ => have he := here_blk he; (se_fnCall (calX (C_turned_by.mono (by decide))) he rfl M.f_turned_by (sa_cons (se_var (i := 4) rfl (by first | exact Or.inl rfl | exact Or.inr (Or.inl rfl) | exact Or.inr (Or.inr rfl))) (sa_cons (se_var (i := 3) rfl (by first | exact Or.inl rfl | exact Or.inr (Or.inl rfl) | exact Or.inr (Or.inr rfl))) sa_nil))))) (sg_name (i := 2) nd rfl (by first | exact Or.inl rfl | exact Or.inr rfl) (by first | exact Or.inl rfl | exact Or.inr rfl)))
    sss_nil)))
    (sss_cons (ss_ret (se_callT (bd_tup rfl) rfl M.b_tuple bt_tuple (sa_cons (se_var (i := 2) rfl (by first | exact Or.inl rfl | exact Or.inr (Or.inl rfl) | exact Or.inr (Or.inr rfl))) sa_nil)))
    sss_nil)))

theorem k_led_by (M : MG T mg) (D0 : DefAt T "led_by" "led_by" (topS 57) 45 ["row", "turns"]) (C_turned_by : CalG T P w mg base false 4 35 c_turned_by)  : CalG T P w mg base false 5 45 c_led_by :=
  (cal_of D0 sc_led_by fun cdv A outer s H E _ hr => b_led_by M C_turned_by cdv A outer s H E hr).apart

/-! turns_between -/
theorem sc_turns_between : FnScope ["row", "others", "summed", "free", "turns", "now", "place", "at", "more", "wrong", "pick", "index"] ["row", "others"] (defScope (topS 58)) := ⟨rfl, rfl, rfl, by decide +kernel, rfl, by decide +kernel, by decide +kernel⟩
def n_turns_between_0 : DS := (sAsg (dLc [10] (jSeqA (dFn c_relations (dCons (dVar 0) dNil))) (gNm 10) dYes (dOp oSub (dBits (dVar 10)) (dC (.int 1)))) (gNm 2))
theorem b_turns_between_0 (M : MG T mg) (C_relations : CalG T P w mg base false 3 41 c_relations) (C_led_by : CalG T P w mg base false 5 45 c_led_by) (C_turns_to : CalG T P w mg base false 5 44 c_turns_to) (C_letters_apart : CalG T P w mg base false 4 43 c_letters_apart) (cdv : Value) (A : Around) (outer : List Env) (s : Shared) (H : Hp) (E : XK) (hr : Room 5 (A.deeper (envOfC "turns_between" (defScope (topS 58)) s.heap.objs.size (T.fad 46) cdv))) :
    SS T (cxOf (L2.CX P w) P w T.K mg base ["row", "others", "summed", "free", "turns", "now", "place", "at", "more", "wrong", "pick", "index"] "turns_between" (defScope (topS 58)) (T.fad 46) cdv A outer s H E) (WF E) ((defBody (topS 58)).getD 0 (.Pass ⟨0, 0, 0, 0⟩)) n_turns_between_0 := by
  have nd := sc_turns_between.nd
  have he : Here (cxOf (L2.CX P w) P w T.K mg base ["row", "others", "summed", "free", "turns", "now", "place", "at", "more", "wrong", "pick", "index"] "turns_between" (defScope (topS 58)) (T.fad 46) cdv A outer s H E) (WF E) false 5 := here_fn hr
  exact (by first | exact ss_setLc (own := [("pick", 10)]) (i := 2) rfl nd rfl rfl rfl (sj_seqA rfl (se_fnCall (calX (C_relations.mono (by decide))) he rfl M.f_relations (sa_cons (se_var (i := 0) rfl (by first | exact Or.inl rfl | exact Or.inr (Or.inl rfl) | exact Or.inr (Or.inr rfl))) sa_nil))) (blkOk_by (N := ["row", "others", "summed", "free", "turns", "now", "place", "at", "more", "wrong", "pick", "index"]) (sc := defScope (topS 58)) (by decide +kernel)) (by decide) (fun _ _ _ _ _ => (sg_name (i := 10) nd rfl (by first | exact Or.inl rfl | exact Or.inr rfl) (by first | exact Or.inl rfl | exact Or.inr rfl))) (fun _ _ _ _ _ => spt_nil) (fun _ _ _ _ _ => (se_op od_sub (se_bits (se_var (i := 10) rfl (by first | exact Or.inl rfl | exact Or.inr (Or.inl rfl) | exact Or.inr (Or.inr rfl)))) se_int)) | exact ss_asg (se_lc (own := [("pick", 10)]) rfl nd (sj_seqA rfl (se_fnCall (calX (C_relations.mono (by decide))) he rfl M.f_relations (sa_cons (se_var (i := 0) rfl (by first | exact Or.inl rfl | exact Or.inr (Or.inl rfl) | exact Or.inr (Or.inr rfl))) sa_nil))) (blkOk_by (N := ["row", "others", "summed", "free", "turns", "now", "place", "at", "more", "wrong", "pick", "index"]) (sc := defScope (topS 58)) (by decide +kernel)) (by decide) (fun _ _ _ _ _ => (sg_name (i := 10) nd rfl (by first | exact Or.inl rfl | exact Or.inr rfl) (by first | exact Or.inl rfl | exact Or.inr rfl))) (fun _ _ _ _ _ => spt_nil) (fun _ _ _ _ _ => (se_op od_sub (se_bits (se_var (i := 10) rfl (by first | exact Or.inl rfl | exact Or.inr (Or.inl rfl) | exact Or.inr (Or.inr rfl)))) se_int))) (sg_name (i := 2) nd rfl (by first | exact Or.inl rfl | exact Or.inr rfl) (by first | exact Or.inl rfl | exact Or.inr rfl)))
def n_turns_between_1 : DS := (sAsg (dLc [7] (jI (iRange1 (dCons (dCall bLen (dCons (dVar 0) dNil)) dNil))) (gNm 7) (dTest (dOp oNotIn (dVar 7) (dVar 2))) (dVar 7)) (gNm 3))
theorem b_turns_between_1 (M : MG T mg) (C_relations : CalG T P w mg base false 3 41 c_relations) (C_led_by : CalG T P w mg base false 5 45 c_led_by) (C_turns_to : CalG T P w mg base false 5 44 c_turns_to) (C_letters_apart : CalG T P w mg base false 4 43 c_letters_apart) (cdv : Value) (A : Around) (outer : List Env) (s : Shared) (H : Hp) (E : XK) (hr : Room 5 (A.deeper (envOfC "turns_between" (defScope (topS 58)) s.heap.objs.size (T.fad 46) cdv))) :
    SS T (cxOf (L2.CX P w) P w T.K mg base ["row", "others", "summed", "free", "turns", "now", "place", "at", "more", "wrong", "pick", "index"] "turns_between" (defScope (topS 58)) (T.fad 46) cdv A outer s H E) (WF E) ((defBody (topS 58)).getD 1 (.Pass ⟨0, 0, 0, 0⟩)) n_turns_between_1 := by
  have nd := sc_turns_between.nd
  have he : Here (cxOf (L2.CX P w) P w T.K mg base ["row", "others", "summed", "free", "turns", "now", "place", "at", "more", "wrong", "pick", "index"] "turns_between" (defScope (topS 58)) (T.fad 46) cdv A outer s H E) (WF E) false 5 := here_fn hr
  exact (by first | exact ss_setLc (own := [("at", 7)]) (i := 3) rfl nd rfl rfl rfl (sj_of (si_range1 rfl M.b_range (sa_cons (se_callB (bd_len rfl) rfl M.b_len bt_len (sa_cons (se_var (i := 0) rfl (by first | exact Or.inl rfl | exact Or.inr (Or.inl rfl) | exact Or.inr (Or.inr rfl))) sa_nil)) sa_nil))) (blkOk_by (N := ["row", "others", "summed", "free", "turns", "now", "place", "at", "more", "wrong", "pick", "index"]) (sc := defScope (topS 58)) (by decide +kernel)) (by decide) (fun _ _ _ _ _ => (sg_name (i := 7) nd rfl (by first | exact Or.inl rfl | exact Or.inr rfl) (by first | exact Or.inl rfl | exact Or.inr rfl))) (fun _ _ _ _ _ => (spt_one (st_cmp (od_notIn rfl) (se_var (i := 7) rfl (by first | exact Or.inl rfl | exact Or.inr (Or.inl rfl) | exact Or.inr (Or.inr rfl))) (se_var (i := 2) rfl (by first | exact Or.inl rfl | exact Or.inr (Or.inl rfl) | exact Or.inr (Or.inr rfl))) rfl))) (fun _ _ _ _ _ => (se_var (i := 7) rfl (by first | exact Or.inl rfl | exact Or.inr (Or.inl rfl) | exact Or.inr (Or.inr rfl)))) | exact ss_asg (se_lc (own := [("at", 7)]) rfl nd (sj_of (si_range1 rfl M.b_range (sa_cons (se_callB (bd_len rfl) rfl M.b_len bt_len (sa_cons (se_var (i := 0) rfl (by first | exact Or.inl rfl | exact Or.inr (Or.inl rfl) | exact Or.inr (Or.inr rfl))) sa_nil)) sa_nil))) (blkOk_by (N := ["row", "others", "summed", "free", "turns", "now", "place", "at", "more", "wrong", "pick", "index"]) (sc := defScope (topS 58)) (by decide +kernel)) (by decide) (fun _ _ _ _ _ => (sg_name (i := 7) nd rfl (by first | exact Or.inl rfl | exact Or.inr rfl) (by first | exact Or.inl rfl | exact Or.inr rfl))) (fun _ _ _ _ _ => (spt_one (st_cmp (od_notIn rfl) (se_var (i := 7) rfl (by first | exact Or.inl rfl | exact Or.inr (Or.inl rfl) | exact Or.inr (Or.inr rfl))) (se_var (i := 2) rfl (by first | exact Or.inl rfl | exact Or.inr (Or.inl rfl) | exact Or.inr (Or.inr rfl))) rfl))) (fun _ _ _ _ _ => (se_var (i := 7) rfl (by first | exact Or.inl rfl | exact Or.inr (Or.inl rfl) | exact Or.inr (Or.inr rfl))))) (sg_name (i := 3) nd rfl (by first | exact Or.inl rfl | exact Or.inr rfl) (by first | exact Or.inl rfl | exact Or.inr rfl)))
def n_turns_between_2 : DS := (sAsg (dCel dNil) (gNm 4))
theorem b_turns_between_2 (M : MG T mg) (C_relations : CalG T P w mg base false 3 41 c_relations) (C_led_by : CalG T P w mg base false 5 45 c_led_by) (C_turns_to : CalG T P w mg base false 5 44 c_turns_to) (C_letters_apart : CalG T P w mg base false 4 43 c_letters_apart) (cdv : Value) (A : Around) (outer : List Env) (s : Shared) (H : Hp) (E : XK) (hr : Room 5 (A.deeper (envOfC "turns_between" (defScope (topS 58)) s.heap.objs.size (T.fad 46) cdv))) :
    SS T (cxOf (L2.CX P w) P w T.K mg base ["row", "others", "summed", "free", "turns", "now", "place", "at", "more", "wrong", "pick", "index"] "turns_between" (defScope (topS 58)) (T.fad 46) cdv A outer s H E) (WF E) ((defBody (topS 58)).getD 2 (.Pass ⟨0, 0, 0, 0⟩)) n_turns_between_2 := by
  have nd := sc_turns_between.nd
  have he : Here (cxOf (L2.CX P w) P w T.K mg base ["row", "others", "summed", "free", "turns", "now", "place", "at", "more", "wrong", "pick", "index"] "turns_between" (defScope (topS 58)) (T.fad 46) cdv A outer s H E) (WF E) false 5 := here_fn hr
  exact (ss_asg (se_cel sa_nil) (sg_name (i := 4) nd rfl (by first | exact Or.inl rfl | exact Or.inr rfl) (by first | exact Or.inl rfl | exact Or.inr rfl)))
def n_turns_between_3 : DS := (sAsg (dVar 0) (gNm 5))
theorem b_turns_between_3 (M : MG T mg) (C_relations : CalG T P w mg base false 3 41 c_relations) (C_led_by : CalG T P w mg base false 5 45 c_led_by) (C_turns_to : CalG T P w mg base false 5 44 c_turns_to) (C_letters_apart : CalG T P w mg base false 4 43 c_letters_apart) (cdv : Value) (A : Around) (outer : List Env) (s : Shared) (H : Hp) (E : XK) (hr : Room 5 (A.deeper (envOfC "turns_between" (defScope (topS 58)) s.heap.objs.size (T.fad 46) cdv))) :
    SS T (cxOf (L2.CX P w) P w T.K mg base ["row", "others", "summed", "free", "turns", "now", "place", "at", "more", "wrong", "pick", "index"] "turns_between" (defScope (topS 58)) (T.fad 46) cdv A outer s H E) (WF E) ((defBody (topS 58)).getD 3 (.Pass ⟨0, 0, 0, 0⟩)) n_turns_between_3 := by
  have nd := sc_turns_between.nd
  have he : Here (cxOf (L2.CX P w) P w T.K mg base ["row", "others", "summed", "free", "turns", "now", "place", "at", "more", "wrong", "pick", "index"] "turns_between" (defScope (topS 58)) (T.fad 46) cdv A outer s H E) (WF E) false 5 := here_fn hr
  exact (ss_asg (se_var (i := 0) rfl (by first | exact Or.inl rfl | exact Or.inr (Or.inl rfl) | exact Or.inr (Or.inr rfl))) (sg_name (i := 5) nd rfl (by first | exact Or.inl rfl | exact Or.inr rfl) (by first | exact Or.inl rfl | exact Or.inr rfl)))
def n_turns_between_4 : DS := (sFor (jI (iEnumL (dCons (dVar 3) dNil))) (gTpA 2 (gsCons (gNm 6) (gsCons (gNm 7) gsNil))) (sSeq (sAsg (dFn c_turns_to (dCons (dIxA (dVar 5) (dVar 7)) (dCons (dIxA (dVar 1) (dVar 7)) (dCons (dLc [11] (jSeqA (dSlA (dVar 3) dNo (dSo (dVar 6)))) (gNm 11) dYes (dIxA (dVar 1) (dVar 11))) dNil)))) (gNm 8)) (sSeq (sAsg (dFn c_led_by (dCons (dVar 5) (dCons (dVar 8) dNil))) (gNm 5)) (sSeq (sExpr (dMeth isL mExt (dVar 4) (dCons (dVar 8) dNil))) sPass))))
theorem b_turns_between_4 (M : MG T mg) (C_relations : CalG T P w mg base false 3 41 c_relations) (C_led_by : CalG T P w mg base false 5 45 c_led_by) (C_turns_to : CalG T P w mg base false 5 44 c_turns_to) (C_letters_apart : CalG T P w mg base false 4 43 c_letters_apart) (cdv : Value) (A : Around) (outer : List Env) (s : Shared) (H : Hp) (E : XK) (hr : Room 5 (A.deeper (envOfC "turns_between" (defScope (topS 58)) s.heap.objs.size (T.fad 46) cdv))) :
    SS T (cxOf (L2.CX P w) P w T.K mg base ["row", "others", "summed", "free", "turns", "now", "place", "at", "more", "wrong", "pick", "index"] "turns_between" (defScope (topS 58)) (T.fad 46) cdv A outer s H E) (WF E) ((defBody (topS 58)).getD 4 (.Pass ⟨0, 0, 0, 0⟩)) n_turns_between_4 := by
  have nd := sc_turns_between.nd
  have he : Here (cxOf (L2.CX P w) P w T.K mg base ["row", "others", "summed", "free", "turns", "now", "place", "at", "more", "wrong", "pick", "index"] "turns_between" (defScope (topS 58)) (T.fad 46) cdv A outer s H E) (WF E) false 5 := here_fn hr
  exact (ss_for pas_fn rfl (sj_of (si_enum rfl rfl M.b_enumerate (sa_cons (se_var (i := 3) rfl (by first | exact Or.inl rfl | exact Or.inr (Or.inl rfl) | exact Or.inr (Or.inr rfl))) sa_nil))) (sg_tupA rfl rfl (sgs_cons (sg_name (i := 6) nd rfl (by first | exact Or.inl rfl | exact Or.inr rfl) (by first | exact Or.inl rfl | exact Or.inr rfl)) (sgs_cons (sg_name (i := 7) nd rfl (by first | exact Or.inl rfl | exact Or.inr rfl) (by first | exact Or.inl rfl | exact Or.inr rfl)) sgs_nil)) rfl rfl) ((sss_cons (ss_asg (se_fnCall (calX (C_turns_to.mono (by decide))) he rfl M.f_turns_to (sa_cons (se_ixA rfl (se_var (i := 5) rfl (by first | exact Or.inl rfl | exact Or.inr (Or.inl rfl) | exact Or.inr (Or.inr rfl))) (se_var (i := 7) rfl (by first | exact Or.inl rfl | exact Or.inr (Or.inl rfl) | exact Or.inr (Or.inr rfl))) (fun _ _ => rfl)) (sa_cons (se_ixA rfl (se_var (i := 1) rfl (by first | exact Or.inl rfl | exact Or.inr (Or.inl rfl) | exact Or.inr (Or.inr rfl))) (se_var (i := 7) rfl (by first | exact Or.inl rfl | exact Or.inr (Or.inl rfl) | exact Or.inr (Or.inr rfl))) (fun _ _ => rfl)) (sa_cons (se_lc (own := [("index", 11)]) rfl nd (sj_seqA rfl (se_slA rfl (se_var (i := 3) rfl (by first | exact Or.inl rfl | exact Or.inr (Or.inl rfl) | exact Or.inr (Or.inr rfl))) so_none (so_some (se_var (i := 6) rfl (by first | exact Or.inl rfl | exact Or.inr (Or.inl rfl) | exact Or.inr (Or.inr rfl)))))) (blkOk_by (N := ["row", "others", "summed", "free", "turns", "now", "place", "at", "more", "wrong", "pick", "index"]) (sc := defScope (topS 58)) (by decide +kernel)) (by decide) (fun _ _ _ _ _ => (sg_name (i := 11) nd rfl (by first | exact Or.inl rfl | exact Or.inr rfl) (by first | exact Or.inl rfl | exact Or.inr rfl))) (fun _ _ _ _ _ => spt_nil) (fun _ _ _ _ _ => (se_ixA rfl (se_var (i := 1) rfl (by first | exact Or.inl rfl | exact Or.inr (Or.inl rfl) | exact Or.inr (Or.inr rfl))) (se_var (i := 11) rfl (by first | exact Or.inl rfl | exact Or.inr (Or.inl rfl) | exact Or.inr (Or.inr rfl))) (fun _ _ => rfl)))) sa_nil)))) (sg_name (i := 8) nd rfl (by first | exact Or.inl rfl | exact Or.inr rfl) (by first | exact Or.inl rfl | exact Or.inr rfl)))
    (sss_cons (ss_asg (se_fnCall (calX (C_led_by.mono (by decide))) he rfl M.f_led_by (sa_cons (se_var (i := 5) rfl (by first | exact Or.inl rfl | exact Or.inr (Or.inl rfl) | exact Or.inr (Or.inr rfl))) (sa_cons (se_var (i := 8) rfl (by first | exact Or.inl rfl | exact Or.inr (Or.inl rfl) | exact Or.inr (Or.inr rfl))) sa_nil))) (sg_name (i := 5) nd rfl (by first | exact Or.inl rfl | exact Or.inr rfl) (by first | exact Or.inl rfl | exact Or.inr rfl)))
    (sss_cons (ss_expr (se_meth (pe_bm PySem.F.plainAttrs_list PySem.F.slot_list_extend PySem.F.type_list_extend md_extend pe_w pa_w) (chk_list rfl) (se_var (i := 4) rfl (by first | exact Or.inl rfl | exact Or.inr (Or.inl rfl) | exact Or.inr (Or.inr rfl))) (sa_cons (se_var (i := 8) rfl (by first | exact Or.inl rfl | exact Or.inr (Or.inl rfl) | exact Or.inr (Or.inr rfl))) sa_nil)))
    sss_nil)))))
def n_turns_between_5 : DS := (sAsg (dLc [7] (jSeqA (dVar 3)) (gNm 7) dYes (dCall bInt (dCons (dOp oNe (dIxA (dVar 5) (dVar 7)) (dIxA (dVar 1) (dVar 7))) dNil))) (gNm 9))
theorem b_turns_between_5 (M : MG T mg) (C_relations : CalG T P w mg base false 3 41 c_relations) (C_led_by : CalG T P w mg base false 5 45 c_led_by) (C_turns_to : CalG T P w mg base false 5 44 c_turns_to) (C_letters_apart : CalG T P w mg base false 4 43 c_letters_apart) (cdv : Value) (A : Around) (outer : List Env) (s : Shared) (H : Hp) (E : XK) (hr : Room 5 (A.deeper (envOfC "turns_between" (defScope (topS 58)) s.heap.objs.size (T.fad 46) cdv))) :
    SS T (cxOf (L2.CX P w) P w T.K mg base ["row", "others", "summed", "free", "turns", "now", "place", "at", "more", "wrong", "pick", "index"] "turns_between" (defScope (topS 58)) (T.fad 46) cdv A outer s H E) (WF E) ((defBody (topS 58)).getD 5 (.Pass ⟨0, 0, 0, 0⟩)) n_turns_between_5 := by
  have nd := sc_turns_between.nd
  have he : Here (cxOf (L2.CX P w) P w T.K mg base ["row", "others", "summed", "free", "turns", "now", "place", "at", "more", "wrong", "pick", "index"] "turns_between" (defScope (topS 58)) (T.fad 46) cdv A outer s H E) (WF E) false 5 := here_fn hr
  exact (by first | exact ss_setLc (own := [("at", 7)]) (i := 9) rfl nd rfl rfl rfl (sj_seqA rfl (se_var (i := 3) rfl (by first | exact Or.inl rfl | exact Or.inr (Or.inl rfl) | exact Or.inr (Or.inr rfl)))) (blkOk_by (N := ["row", "others", "summed", "free", "turns", "now", "place", "at", "more", "wrong", "pick", "index"]) (sc := defScope (topS 58)) (by decide +kernel)) (by decide) (fun _ _ _ _ _ => (sg_name (i := 7) nd rfl (by first | exact Or.inl rfl | exact Or.inr rfl) (by first | exact Or.inl rfl | exact Or.inr rfl))) (fun _ _ _ _ _ => spt_nil) (fun _ _ _ _ _ => (se_callT bd_int rfl M.b_int bt_int (sa_cons (se_cmp (od_ne rfl hr.units) (se_ixA rfl (se_var (i := 5) rfl (by first | exact Or.inl rfl | exact Or.inr (Or.inl rfl) | exact Or.inr (Or.inr rfl))) (se_var (i := 7) rfl (by first | exact Or.inl rfl | exact Or.inr (Or.inl rfl) | exact Or.inr (Or.inr rfl))) (fun _ _ => rfl)) (se_ixA rfl (se_var (i := 1) rfl (by first | exact Or.inl rfl | exact Or.inr (Or.inl rfl) | exact Or.inr (Or.inr rfl))) (se_var (i := 7) rfl (by first | exact Or.inl rfl | exact Or.inr (Or.inl rfl) | exact Or.inr (Or.inr rfl))) (fun _ _ => rfl)) (nomark _)) sa_nil))) | exact ss_asg (se_lc (own := [("at", 7)]) rfl nd (sj_seqA rfl (se_var (i := 3) rfl (by first | exact Or.inl rfl | exact Or.inr (Or.inl rfl) | exact Or.inr (Or.inr rfl)))) (blkOk_by (N := ["row", "others", "summed", "free", "turns", "now", "place", "at", "more", "wrong", "pick", "index"]) (sc := defScope (topS 58)) (by decide +kernel)) (by decide) (fun _ _ _ _ _ => (sg_name (i := 7) nd rfl (by first | exact Or.inl rfl | exact Or.inr rfl) (by first | exact Or.inl rfl | exact Or.inr rfl))) (fun _ _ _ _ _ => spt_nil) (fun _ _ _ _ _ => (se_callT bd_int rfl M.b_int bt_int (sa_cons (se_cmp (od_ne rfl hr.units) (se_ixA rfl (se_var (i := 5) rfl (by first | exact Or.inl rfl | exact Or.inr (Or.inl rfl) | exact Or.inr (Or.inr rfl))) (se_var (i := 7) rfl (by first | exact Or.inl rfl | exact Or.inr (Or.inl rfl) | exact Or.inr (Or.inr rfl))) (fun _ _ => rfl)) (se_ixA rfl (se_var (i := 1) rfl (by first | exact Or.inl rfl | exact Or.inr (Or.inl rfl) | exact Or.inr (Or.inr rfl))) (se_var (i := 7) rfl (by first | exact Or.inl rfl | exact Or.inr (Or.inl rfl) | exact Or.inr (Or.inr rfl))) (fun _ _ => rfl)) (nomark _)) sa_nil)))) (sg_name (i := 9) nd rfl (by first | exact Or.inl rfl | exact Or.inr rfl) (by first | exact Or.inl rfl | exact Or.inr rfl)))
def n_turns_between_6 : DS := (sIf (dTru (dCall bAnyT (dCons (dVar 9) dNil))) (sSeq (sExpr (dMeth isL mExt (dVar 4) (dCons (dOp oMultA (dLst (dCons (dFn c_letters_apart (dCons (dLc [7] (jSeqA (dVar 3)) (gNm 7) dYes (dIxA (dVar 1) (dVar 7))) (dCons (dVar 9) dNil))) dNil)) (dC (.int 2))) dNil))) sPass) sPass)
theorem b_turns_between_6 (M : MG T mg) (C_relations : CalG T P w mg base false 3 41 c_relations) (C_led_by : CalG T P w mg base false 5 45 c_led_by) (C_turns_to : CalG T P w mg base false 5 44 c_turns_to) (C_letters_apart : CalG T P w mg base false 4 43 c_letters_apart) (cdv : Value) (A : Around) (outer : List Env) (s : Shared) (H : Hp) (E : XK) (hr : Room 5 (A.deeper (envOfC "turns_between" (defScope (topS 58)) s.heap.objs.size (T.fad 46) cdv))) :
    SS T (cxOf (L2.CX P w) P w T.K mg base ["row", "others", "summed", "free", "turns", "now", "place", "at", "more", "wrong", "pick", "index"] "turns_between" (defScope (topS 58)) (T.fad 46) cdv A outer s H E) (WF E) ((defBody (topS 58)).getD 6 (.Pass ⟨0, 0, 0, 0⟩)) n_turns_between_6 := by
  have nd := sc_turns_between.nd
  have he : Here (cxOf (L2.CX P w) P w T.K mg base ["row", "others", "summed", "free", "turns", "now", "place", "at", "more", "wrong", "pick", "index"] "turns_between" (defScope (topS 58)) (T.fad 46) cdv A outer s H E) (WF E) false 5 := here_fn hr
  exact (ss_if (st_tru rfl (se_callB (bd_anyT rfl rfl) rfl M.b_any bt_any (sa_cons (se_var (i := 9) rfl (by first | exact Or.inl rfl | exact Or.inr (Or.inl rfl) | exact Or.inr (Or.inr rfl))) sa_nil))) ((sss_cons (ss_expr (se_meth (pe_bm PySem.F.plainAttrs_list PySem.F.slot_list_extend PySem.F.type_list_extend md_extend pe_w pa_w) (chk_list rfl) (se_var (i := 4) rfl (by first | exact Or.inl rfl | exact Or.inr (Or.inl rfl) | exact Or.inr (Or.inr rfl))) (sa_cons (se_op (od_multA rfl) (se_lst (sa_cons (se_fnCall (calX (C_letters_apart.mono (by decide))) he rfl M.f_letters_apart (sa_cons (se_lc (own := [("at", 7)]) rfl nd (sj_seqA rfl (se_var (i := 3) rfl (by first | exact Or.inl rfl | exact Or.inr (Or.inl rfl) | exact Or.inr (Or.inr rfl)))) (blkOk_by (N := ["row", "others", "summed", "free", "turns", "now", "place", "at", "more", "wrong", "pick", "index"]) (sc := defScope (topS 58)) (by decide +kernel)) (by decide) (fun _ _ _ _ _ => (sg_name (i := 7) nd rfl (by first | exact Or.inl rfl | exact Or.inr rfl) (by first | exact Or.inl rfl | exact Or.inr rfl))) (fun _ _ _ _ _ => spt_nil) (fun _ _ _ _ _ => (se_ixA rfl (se_var (i := 1) rfl (by first | exact Or.inl rfl | exact Or.inr (Or.inl rfl) | exact Or.inr (Or.inr rfl))) (se_var (i := 7) rfl (by first | exact Or.inl rfl | exact Or.inr (Or.inl rfl) | exact Or.inr (Or.inr rfl))) (fun _ _ => rfl)))) (sa_cons (se_var (i := 9) rfl (by first | exact Or.inl rfl | exact Or.inr (Or.inl rfl) | exact Or.inr (Or.inr rfl))) sa_nil))) sa_nil)) se_int) sa_nil)))
    sss_nil)) (sss_nil))
def n_turns_between_7 : DS := (sRet (dCall bTup (dCons (dVar 4) dNil)))
theorem b_turns_between_7 (M : MG T mg) (C_relations : CalG T P w mg base false 3 41 c_relations) (C_led_by : CalG T P w mg base false 5 45 c_led_by) (C_turns_to : CalG T P w mg base false 5 44 c_turns_to) (C_letters_apart : CalG T P w mg base false 4 43 c_letters_apart) (cdv : Value) (A : Around) (outer : List Env) (s : Shared) (H : Hp) (E : XK) (hr : Room 5 (A.deeper (envOfC "turns_between" (defScope (topS 58)) s.heap.objs.size (T.fad 46) cdv))) :
    SS T (cxOf (L2.CX P w) P w T.K mg base ["row", "others", "summed", "free", "turns", "now", "place", "at", "more", "wrong", "pick", "index"] "turns_between" (defScope (topS 58)) (T.fad 46) cdv A outer s H E) (WF E) ((defBody (topS 58)).getD 7 (.Pass ⟨0, 0, 0, 0⟩)) n_turns_between_7 := by
  have nd := sc_turns_between.nd
  have he : Here (cxOf (L2.CX P w) P w T.K mg base ["row", "others", "summed", "free", "turns", "now", "place", "at", "more", "wrong", "pick", "index"] "turns_between" (defScope (topS 58)) (T.fad 46) cdv A outer s H E) (WF E) false 5 := here_fn hr
  exact (ss_ret (se_callT (bd_tup rfl) rfl M.b_tuple bt_tuple (sa_cons (se_var (i := 4) rfl (by first | exact Or.inl rfl | exact Or.inr (Or.inl rfl) | exact Or.inr (Or.inr rfl))) sa_nil)))
def n_turns_between : DS := (sSeq n_turns_between_0 (sSeq n_turns_between_1 (sSeq n_turns_between_2 (sSeq n_turns_between_3 (sSeq n_turns_between_4 (sSeq n_turns_between_5 (sSeq n_turns_between_6 (sSeq n_turns_between_7 sPass))))))))
def c0_turns_between : List D → List O → R D := ar 2 (runF 12 n_turns_between)
def c_turns_between : List D → List O → R D := Den.apart c0_turns_between
theorem b_turns_between (M : MG T mg) (C_relations : CalG T P w mg base false 3 41 c_relations) (C_led_by : CalG T P w mg base false 5 45 c_led_by) (C_turns_to : CalG T P w mg base false 5 44 c_turns_to) (C_letters_apart : CalG T P w mg base false 4 43 c_letters_apart) (cdv : Value) (A : Around) (outer : List Env) (s : Shared) (H : Hp) (E : XK) (hr : Room 5 (A.deeper (envOfC "turns_between" (defScope (topS 58)) s.heap.objs.size (T.fad 46) cdv))) :
    SSs T (cxOf (L2.CX P w) P w T.K mg base ["row", "others", "summed", "free", "turns", "now", "place", "at", "more", "wrong", "pick", "index"] "turns_between" (defScope (topS 58)) (T.fad 46) cdv A outer s H E) (WF E) (defBody (topS 58)) n_turns_between := by
  have nd := sc_turns_between.nd
  have he : Here (cxOf (L2.CX P w) P w T.K mg base ["row", "others", "summed", "free", "turns", "now", "place", "at", "more", "wrong", "pick", "index"] "turns_between" (defScope (topS 58)) (T.fad 46) cdv A outer s H E) (WF E) false 5 := here_fn hr
  exact (sss_cons (b_turns_between_0 M C_relations C_led_by C_turns_to C_letters_apart cdv A outer s H E hr) (sss_cons (b_turns_between_1 M C_relations C_led_by C_turns_to C_letters_apart cdv A outer s H E hr) (sss_cons (b_turns_between_2 M C_relations C_led_by C_turns_to C_letters_apart cdv A outer s H E hr) (sss_cons (b_turns_between_3 M C_relations C_led_by C_turns_to C_letters_apart cdv A outer s H E hr) (sss_cons (b_turns_between_4 M C_relations C_led_by C_turns_to C_letters_apart cdv A outer s H E hr) (sss_cons (b_turns_between_5 M C_relations C_led_by C_turns_to C_letters_apart cdv A outer s H E hr) (sss_cons (b_turns_between_6 M C_relations C_led_by C_turns_to C_letters_apart cdv A outer s H E hr) (sss_cons (b_turns_between_7 M C_relations C_led_by C_turns_to C_letters_apart cdv A outer s H E hr) sss_nil))))))))

theorem k_turns_between (M : MG T mg) (D0 : DefAt T "turns_between" "turns_between" (topS 58) 46 ["row", "others"]) (C_relations : CalG T P w mg base false 3 41 c_relations) (C_led_by : CalG T P w mg base false 5 45 c_led_by) (C_turns_to : CalG T P w mg base false 5 44 c_turns_to) (C_letters_apart : CalG T P w mg base false 4 43 c_letters_apart)  : CalG T P w mg base false 6 46 c_turns_between :=
  (cal_of D0 sc_turns_between fun cdv A outer s H E _ hr => b_turns_between M C_relations C_led_by C_turns_to C_letters_apart cdv A outer s H E hr).apart

/-! led_or_unlike -/
def n_led_or_unlike : DS := (sSeq (sExpr (dFn c_check_rows (dCons (dVar 0) (dCons (dVar 1) dNil)))) (sSeq (sAsg (dFn c_some_unlike (dCons (dVar 0) (dCons (dVar 1) dNil))) (gNm 2)) (sSeq (sRet (dIf (dTest (dOp oIsN (dVar 2) (dC .non))) (dTup (dCons (dC (.str "led")) (dCons (dFn c_turns_between (dCons (dVar 0) (dCons (dVar 1) dNil))) dNil))) (dVar 2))) sPass)))
def c0_led_or_unlike : List D → List O → R D := ar 2 (runF 3 n_led_or_unlike)
def c_led_or_unlike : List D → List O → R D := Den.apart c0_led_or_unlike
theorem sc_led_or_unlike : FnScope ["row", "others", "found"] ["row", "others"] (defScope (topS 59)) := ⟨rfl, rfl, rfl, by decide +kernel, rfl, by decide +kernel, by decide +kernel⟩
theorem b_led_or_unlike (M : MG T mg) (C_check_rows : CalG T P w mg base false 4 20 c_check_rows) (C_some_unlike : CalG T P w mg base false 5 42 c_some_unlike) (C_turns_between : CalG T P w mg base false 6 46 c_turns_between) (cdv : Value) (A : Around) (outer : List Env) (s : Shared) (H : Hp) (E : XK) (hr : Room 6 (A.deeper (envOfC "led_or_unlike" (defScope (topS 59)) s.heap.objs.size (T.fad 47) cdv))) :
    SSs T (cxOf (L2.CX P w) P w T.K mg base ["row", "others", "found"] "led_or_unlike" (defScope (topS 59)) (T.fad 47) cdv A outer s H E) (WF E) (defBody (topS 59)) n_led_or_unlike := by
  have nd := sc_led_or_unlike.nd
  have he : Here (cxOf (L2.CX P w) P w T.K mg base ["row", "others", "found"] "led_or_unlike" (defScope (topS 59)) (T.fad 47) cdv A outer s H E) (WF E) false 6 := here_fn hr
  exact (sss_cons (ss_expr (se_fnCall (calX (C_check_rows.mono (by decide))) he rfl M.f_check_rows (sa_cons (se_var (i := 0) rfl (by first | exact Or.inl rfl | exact Or.inr (Or.inl rfl) | exact Or.inr (Or.inr rfl))) (sa_cons (se_var (i := 1) rfl (by first | exact Or.inl rfl | exact Or.inr (Or.inl rfl) | exact Or.inr (Or.inr rfl))) sa_nil))))
    (sss_cons (ss_asg (se_fnCall (calX (C_some_unlike.mono (by decide))) he rfl M.f_some_unlike (sa_cons (se_var (i := 0) rfl (by first | exact Or.inl rfl | exact Or.inr (Or.inl rfl) | exact Or.inr (Or.inr rfl))) (sa_cons (se_var (i := 1) rfl (by first | exact Or.inl rfl | exact Or.inr (Or.inl rfl) | exact Or.inr (Or.inr rfl))) sa_nil))) (sg_name (i := 2) nd rfl (by first | exact Or.inl rfl | exact Or.inr rfl) (by first | exact Or.inl rfl | exact Or.inr rfl)))
    (sss_cons (ss_ret (se_if (st_cmp od_isN (se_var (i := 2) rfl (by first | exact Or.inl rfl | exact Or.inr (Or.inl rfl) | exact Or.inr (Or.inr rfl))) se_non (nomark _)) (se_tup (sa_cons se_str (sa_cons (se_fnCall (calX (C_turns_between.mono (by decide))) he rfl M.f_turns_between (sa_cons (se_var (i := 0) rfl (by first | exact Or.inl rfl | exact Or.inr (Or.inl rfl) | exact Or.inr (Or.inr rfl))) (sa_cons (se_var (i := 1) rfl (by first | exact Or.inl rfl | exact Or.inr (Or.inl rfl) | exact Or.inr (Or.inr rfl))) sa_nil))) sa_nil))) (se_var (i := 2) rfl (by first | exact Or.inl rfl | exact Or.inr (Or.inl rfl) | exact Or.inr (Or.inr rfl)))))
    sss_nil)))

theorem k_led_or_unlike (M : MG T mg) (D0 : DefAt T "led_or_unlike" "led_or_unlike" (topS 59) 47 ["row", "others"]) (C_check_rows : CalG T P w mg base false 4 20 c_check_rows) (C_some_unlike : CalG T P w mg base false 5 42 c_some_unlike) (C_turns_between : CalG T P w mg base false 6 46 c_turns_between)  : CalG T P w mg base false 7 47 c_led_or_unlike :=
  (cal_of D0 sc_led_or_unlike fun cdv A outer s H E _ hr => b_led_or_unlike M C_check_rows C_some_unlike C_turns_between cdv A outer s H E hr).apart

/-! are_turns -/
def n_are_turns : DS := (sSeq (sRet (dAnd (dFn c_are_operators (dCons (dVar 0) (dCons (dC (.int 0)) (dCons (dC (.int 200)) dNil)))) (dCall bAllT (dCons (dLc [2] (jSeqA (dVar 0)) (gNm 2) dYes (dOp oEq (dCall bLen (dCons (dVar 2) dNil)) (dVar 1))) dNil)))) sPass)
def c0_are_turns : List D → List O → R D := ar 2 (runF 3 n_are_turns)
def c_are_turns : List D → List O → R D := Den.apart c0_are_turns
theorem sc_are_turns : FnScope ["value", "length", "by"] ["value", "length"] (defScope (topS 60)) := ⟨rfl, rfl, rfl, by decide +kernel, rfl, by decide +kernel, by decide +kernel⟩
theorem b_are_turns (M : MG T mg) (C_are_operators : CalG T P w mg base false 2 17 c_are_operators) (cdv : Value) (A : Around) (outer : List Env) (s : Shared) (H : Hp) (E : XK) (hr : Room 2 (A.deeper (envOfC "are_turns" (defScope (topS 60)) s.heap.objs.size (T.fad 48) cdv))) :
    SSs T (cxOf (L2.CX P w) P w T.K mg base ["value", "length", "by"] "are_turns" (defScope (topS 60)) (T.fad 48) cdv A outer s H E) (WF E) (defBody (topS 60)) n_are_turns := by
  obtain ⟨t_MOST_TURNS, e_MOST_TURNS⟩ := M.i_MOST_TURNS
  have nd := sc_are_turns.nd
  have he : Here (cxOf (L2.CX P w) P w T.K mg base ["value", "length", "by"] "are_turns" (defScope (topS 60)) (T.fad 48) cdv A outer s H E) (WF E) false 2 := here_fn hr
  exact (sss_cons (ss_ret (se_and (se_fnCall (calX (C_are_operators.mono (by decide))) he rfl M.f_are_operators (sa_cons (se_var (i := 0) rfl (by first | exact Or.inl rfl | exact Or.inr (Or.inl rfl) | exact Or.inr (Or.inr rfl))) (sa_cons se_int (sa_cons (se_gint rfl e_MOST_TURNS) sa_nil)))) (se_one (se_callB (bd_allT rfl rfl) rfl M.b_all bt_all (sa_cons (se_lc (own := [("by", 2)]) rfl nd (sj_seqA rfl (se_var (i := 0) rfl (by first | exact Or.inl rfl | exact Or.inr (Or.inl rfl) | exact Or.inr (Or.inr rfl)))) (blkOk_by (N := ["value", "length", "by"]) (sc := defScope (topS 60)) (by decide +kernel)) (by decide) (fun _ _ _ _ _ => (sg_name (i := 2) nd rfl (by first | exact Or.inl rfl | exact Or.inr rfl) (by first | exact Or.inl rfl | exact Or.inr rfl))) (fun _ _ _ _ _ => spt_nil) (fun _ _ _ _ _ => (se_cmp (od_eq rfl hr.units) (se_callB (bd_len rfl) rfl M.b_len bt_len (sa_cons (se_var (i := 2) rfl (by first | exact Or.inl rfl | exact Or.inr (Or.inl rfl) | exact Or.inr (Or.inr rfl))) sa_nil)) (se_var (i := 1) rfl (by first | exact Or.inl rfl | exact Or.inr (Or.inl rfl) | exact Or.inr (Or.inr rfl))) (nomark _)))) sa_nil)))))
    sss_nil)

theorem k_are_turns (M : MG T mg) (D0 : DefAt T "are_turns" "are_turns" (topS 60) 48 ["value", "length"]) (C_are_operators : CalG T P w mg base false 2 17 c_are_operators)  : CalG T P w mg base false 3 48 c_are_turns :=
  (cal_of D0 sc_are_turns fun cdv A outer s H E _ hr => b_are_turns M C_are_operators cdv A outer s H E hr).apart

/-! is_led_or_unlike -/
def n_is_led_or_unlike : DS := (sSeq (sExpr (dFn c_check_rows (dCons (dVar 0) (dCons (dVar 1) dNil)))) (sSeq (sIf (dTru (dFn c_is_told (dCons (dVar 2) (dCons (dC (.str "led")) dNil)))) (sSeq (sRet (dAnd (dFn c_are_turns (dCons (dIxA (dVar 2) (dC (.int 1))) (dCons (dCall bLen (dCons (dIxA (dVar 0) (dC (.int 0))) dNil)) dNil))) (dOp oEq (dFn c_led_by (dCons (dVar 0) (dCons (dIxA (dVar 2) (dC (.int 1))) dNil))) (dVar 1)))) sPass) sPass) (sSeq (sIf (dTru (dFn c_is_told (dCons (dVar 2) (dCons (dC (.str "lot")) dNil)))) (sSeq (sRet (dAnd (dFn c_is_choice (dCons (dIxA (dVar 2) (dC (.int 1))) (dCons (dCall bLen (dCons (dVar 0) dNil)) dNil))) (dFn c_is_unlike_lot (dCons (dVar 0) (dCons (dVar 1) (dCons (dIxA (dVar 2) (dC (.int 1))) dNil)))))) sPass) sPass) (sSeq (sIf (dOrT (dNotT (dTru (dFn c_has_form (dCons (dVar 2) (dCons (dC (.str "pair")) (dCons (dC (.int 3)) dNil)))))) (dNotT (dTru (dCall bAllT (dCons (dLc [3] (jSeqA (dSlA (dVar 2) (dSo (dC (.int 1))) dNo)) (gNm 3) dYes (dFn c_is_index (dCons (dVar 3) (dCons (dCall bLen (dCons (dVar 0) dNil)) dNil)))) dNil))))) (sSeq (sRet (dC (.bl false))) sPass) sPass) (sSeq (sRet (dAnd (dOp oLt (dIxA (dVar 2) (dC (.int 1))) (dIxA (dVar 2) (dC (.int 2)))) (dFn c_is_unlike_pair (dCons (dVar 0) (dCons (dVar 1) (dCons (dIxA (dVar 2) (dC (.int 1))) (dCons (dIxA (dVar 2) (dC (.int 2))) dNil))))))) sPass)))))
def c0_is_led_or_unlike : List D → List O → R D := ar 3 (runF 4 n_is_led_or_unlike)
def c_is_led_or_unlike : List D → List O → R D := Den.apart c0_is_led_or_unlike
theorem sc_is_led_or_unlike : FnScope ["row", "others", "value", "at"] ["row", "others", "value"] (defScope (topS 61)) := ⟨rfl, rfl, rfl, by decide +kernel, rfl, by decide +kernel, by decide +kernel⟩
theorem b_is_led_or_unlike (M : MG T mg) (C_check_rows : CalG T P w mg base false 4 20 c_check_rows) (C_is_told : CalG T P w mg base false 3 5 c_is_told) (C_are_turns : CalG T P w mg base false 3 48 c_are_turns) (C_led_by : CalG T P w mg base false 5 45 c_led_by) (C_is_choice : CalG T P w mg base false 4 33 c_is_choice) (C_is_unlike_lot : CalG T P w mg base false 4 39 c_is_unlike_lot) (C_has_form : CalG T P w mg base false 2 4 c_has_form) (C_is_index : CalG T P w mg base false 2 1 c_is_index) (C_is_unlike_pair : CalG T P w mg base false 4 38 c_is_unlike_pair) (cdv : Value) (A : Around) (outer : List Env) (s : Shared) (H : Hp) (E : XK) (hr : Room 5 (A.deeper (envOfC "is_led_or_unlike" (defScope (topS 61)) s.heap.objs.size (T.fad 49) cdv))) :
    SSs T (cxOf (L2.CX P w) P w T.K mg base ["row", "others", "value", "at"] "is_led_or_unlike" (defScope (topS 61)) (T.fad 49) cdv A outer s H E) (WF E) (defBody (topS 61)) n_is_led_or_unlike := by
  have nd := sc_is_led_or_unlike.nd
  have he : Here (cxOf (L2.CX P w) P w T.K mg base ["row", "others", "value", "at"] "is_led_or_unlike" (defScope (topS 61)) (T.fad 49) cdv A outer s H E) (WF E) false 5 := here_fn hr
  exact (sss_cons (ss_expr (se_fnCall (calX (C_check_rows.mono (by decide))) he rfl M.f_check_rows (sa_cons (se_var (i := 0) rfl (by first | exact Or.inl rfl | exact Or.inr (Or.inl rfl) | exact Or.inr (Or.inr rfl))) (sa_cons (se_var (i := 1) rfl (by first | exact Or.inl rfl | exact Or.inr (Or.inl rfl) | exact Or.inr (Or.inr rfl))) sa_nil))))
    (sss_cons (ss_if (st_tru rfl (se_fnCall (calX (C_is_told.mono (by decide))) he rfl M.f_is_told (sa_cons (se_var (i := 2) rfl (by first | exact Or.inl rfl | exact Or.inr (Or.inl rfl) | exact Or.inr (Or.inr rfl))) (sa_cons se_str sa_nil)))) ((sss_cons (ss_ret (se_and (se_fnCall (calX (C_are_turns.mono (by decide))) he rfl M.f_are_turns (sa_cons (se_ixA rfl (se_var (i := 2) rfl (by first | exact Or.inl rfl | exact Or.inr (Or.inl rfl) | exact Or.inr (Or.inr rfl))) se_int (fun _ _ => rfl)) (sa_cons (se_callB (bd_len rfl) rfl M.b_len bt_len (sa_cons (se_ixA rfl (se_var (i := 0) rfl (by first | exact Or.inl rfl | exact Or.inr (Or.inl rfl) | exact Or.inr (Or.inr rfl))) se_int (fun _ _ => rfl)) sa_nil)) sa_nil))) (se_one (se_cmp (od_eq rfl hr.units) (se_fnCall (calX (C_led_by.mono (by decide))) he rfl M.f_led_by (sa_cons (se_var (i := 0) rfl (by first | exact Or.inl rfl | exact Or.inr (Or.inl rfl) | exact Or.inr (Or.inr rfl))) (sa_cons (se_ixA rfl (se_var (i := 2) rfl (by first | exact Or.inl rfl | exact Or.inr (Or.inl rfl) | exact Or.inr (Or.inr rfl))) se_int (fun _ _ => rfl)) sa_nil))) (se_var (i := 1) rfl (by first | exact Or.inl rfl | exact Or.inr (Or.inl rfl) | exact Or.inr (Or.inr rfl))) (nomark _)))))
    sss_nil)) (sss_nil))
    (sss_cons (ss_if (st_tru rfl (se_fnCall (calX (C_is_told.mono (by decide))) he rfl M.f_is_told (sa_cons (se_var (i := 2) rfl (by first | exact Or.inl rfl | exact Or.inr (Or.inl rfl) | exact Or.inr (Or.inr rfl))) (sa_cons se_str sa_nil)))) ((sss_cons (ss_ret (se_and (se_fnCall (calX (C_is_choice.mono (by decide))) he rfl M.f_is_choice (sa_cons (se_ixA rfl (se_var (i := 2) rfl (by first | exact Or.inl rfl | exact Or.inr (Or.inl rfl) | exact Or.inr (Or.inr rfl))) se_int (fun _ _ => rfl)) (sa_cons (se_callB (bd_len rfl) rfl M.b_len bt_len (sa_cons (se_var (i := 0) rfl (by first | exact Or.inl rfl | exact Or.inr (Or.inl rfl) | exact Or.inr (Or.inr rfl))) sa_nil)) sa_nil))) (se_one (se_fnCall (calX (C_is_unlike_lot.mono (by decide))) he rfl M.f_is_unlike_lot (sa_cons (se_var (i := 0) rfl (by first | exact Or.inl rfl | exact Or.inr (Or.inl rfl) | exact Or.inr (Or.inr rfl))) (sa_cons (se_var (i := 1) rfl (by first | exact Or.inl rfl | exact Or.inr (Or.inl rfl) | exact Or.inr (Or.inr rfl))) (sa_cons (se_ixA rfl (se_var (i := 2) rfl (by first | exact Or.inl rfl | exact Or.inr (Or.inl rfl) | exact Or.inr (Or.inr rfl))) se_int (fun _ _ => rfl)) sa_nil)))))))
    sss_nil)) (sss_nil))
    (sss_cons (ss_if (SW.st (sw_or (st_not (st_tru rfl (se_fnCall (calX (C_has_form.mono (by decide))) he rfl M.f_has_form (sa_cons (se_var (i := 2) rfl (by first | exact Or.inl rfl | exact Or.inr (Or.inl rfl) | exact Or.inr (Or.inr rfl))) (sa_cons se_str (sa_cons se_int sa_nil)))))) (sw_or1 (st_not (st_tru rfl (se_callB (bd_allT rfl rfl) rfl M.b_all bt_all (sa_cons (se_lc (own := [("at", 3)]) rfl nd (sj_seqA rfl (se_slA rfl (se_var (i := 2) rfl (by first | exact Or.inl rfl | exact Or.inr (Or.inl rfl) | exact Or.inr (Or.inr rfl))) (so_some se_int) so_none)) (blkOk_by (N := ["row", "others", "value", "at"]) (sc := defScope (topS 61)) (by decide +kernel)) (by decide) (fun _ _ _ _ _ => (sg_name (i := 3) nd rfl (by first | exact Or.inl rfl | exact Or.inr rfl) (by first | exact Or.inl rfl | exact Or.inr rfl))) (fun _ _ _ _ _ => spt_nil) (fun _ _ _ _ _ => have he := here_blk he; (se_fnCall (calX (C_is_index.mono (by decide))) he rfl M.f_is_index (sa_cons (se_var (i := 3) rfl (by first | exact Or.inl rfl | exact Or.inr (Or.inl rfl) | exact Or.inr (Or.inr rfl))) (sa_cons (se_callB (bd_len rfl) rfl M.b_len bt_len (sa_cons (se_var (i := 0) rfl (by first | exact Or.inl rfl | exact Or.inr (Or.inl rfl) | exact Or.inr (Or.inr rfl))) sa_nil)) sa_nil))))) sa_nil))))))) ((sss_cons (ss_ret se_bl)
    sss_nil)) (sss_nil))
    (sss_cons (ss_ret (se_and (se_cmp od_lt (se_ixA rfl (se_var (i := 2) rfl (by first | exact Or.inl rfl | exact Or.inr (Or.inl rfl) | exact Or.inr (Or.inr rfl))) se_int (fun _ _ => rfl)) (se_ixA rfl (se_var (i := 2) rfl (by first | exact Or.inl rfl | exact Or.inr (Or.inl rfl) | exact Or.inr (Or.inr rfl))) se_int (fun _ _ => rfl)) (nomark _)) (se_one (se_fnCall (calX (C_is_unlike_pair.mono (by decide))) he rfl M.f_is_unlike_pair (sa_cons (se_var (i := 0) rfl (by first | exact Or.inl rfl | exact Or.inr (Or.inl rfl) | exact Or.inr (Or.inr rfl))) (sa_cons (se_var (i := 1) rfl (by first | exact Or.inl rfl | exact Or.inr (Or.inl rfl) | exact Or.inr (Or.inr rfl))) (sa_cons (se_ixA rfl (se_var (i := 2) rfl (by first | exact Or.inl rfl | exact Or.inr (Or.inl rfl) | exact Or.inr (Or.inr rfl))) se_int (fun _ _ => rfl)) (sa_cons (se_ixA rfl (se_var (i := 2) rfl (by first | exact Or.inl rfl | exact Or.inr (Or.inl rfl) | exact Or.inr (Or.inr rfl))) se_int (fun _ _ => rfl)) sa_nil))))))))
    sss_nil)))))

theorem k_is_led_or_unlike (M : MG T mg) (D0 : DefAt T "is_led_or_unlike" "is_led_or_unlike" (topS 61) 49 ["row", "others", "value"]) (C_check_rows : CalG T P w mg base false 4 20 c_check_rows) (C_is_told : CalG T P w mg base false 3 5 c_is_told) (C_are_turns : CalG T P w mg base false 3 48 c_are_turns) (C_led_by : CalG T P w mg base false 5 45 c_led_by) (C_is_choice : CalG T P w mg base false 4 33 c_is_choice) (C_is_unlike_lot : CalG T P w mg base false 4 39 c_is_unlike_lot) (C_has_form : CalG T P w mg base false 2 4 c_has_form) (C_is_index : CalG T P w mg base false 2 1 c_is_index) (C_is_unlike_pair : CalG T P w mg base false 4 38 c_is_unlike_pair)  : CalG T P w mg base false 6 49 c_is_led_or_unlike :=
  (cal_of D0 sc_is_led_or_unlike fun cdv A outer s H E _ hr => b_is_led_or_unlike M C_check_rows C_is_told C_are_turns C_led_by C_is_choice C_is_unlike_lot C_has_form C_is_index C_is_unlike_pair cdv A outer s H E hr).apart

/-! _law_dice -/
def n__law_dice : DS := (sSeq (sAsg (dIf (dTest (dOp oLt (dVar 1) (dCall bLen (dCons (dVar 0) dNil)))) (dCall bInt (dCons (dIxA (dVar 0) (dVar 1)) dNil)) (dOp oAdd (dOp oMultA (dC (.int 113)) (dVar 1)) (dC (.int 67)))) (gNm 2)) (sSeq (sAsg (dOp oMod (dCall bMax2 (dCons (dC (.int 0)) (dCons (dOp oSub (dCall bAbs (dCons (dVar 2) dNil)) (dOp oPow (dC (.int 10)) (dC (.int 16)))) dNil))) (dOp oMultA (dOp oPow (dC (.int 10)) (dC (.int 57))) (dOp oPow (dC (.int 10)) (dC (.int 60))))) (gNm 3)) (sSeq (sRet (dCel (dCons (dVar 3) (dCons (dOp oAdd (dOp oAdd (dOp oAdd (dOp oMultA (dOp oMod (dCall bAbs (dCons (dVar 2) dNil)) (dC (.int 1152921504606846697))) (dC (.int 103))) (dOp oMultA (dC (.int 1021)) (dVar 1))) (dOp oMultA (dC (.int 61)) (dCall bInt (dCons (dOp oLt (dVar 2) (dC (.int 0))) dNil)))) (dC (.int 47))) (dCons (dC (.int 0)) dNil))))) sPass)))
def c__law_dice : List D → List O → R D := ar 2 (runF0 4 n__law_dice)
theorem sc__law_dice : FnScope ["_law_script", "_law_spot", "_law_cell", "_law_great"] ["_law_script", "_law_spot"] (defScope (topS 63)) := ⟨rfl, rfl, rfl, by decide +kernel, rfl, by decide +kernel, by decide +kernel⟩
theorem b__law_dice (M : MG T mg)  (cdv : Value) (A : Around) (outer : List Env) (s : Shared) (H : Hp) (E : XK) (hr : Room 0 (A.deeper (envOfC "_law_dice" (defScope (topS 63)) s.heap.objs.size (T.fad 50) cdv))) :
    SSs T (cxOf (L2.CX P w) P w T.K mg base ["_law_script", "_law_spot", "_law_cell", "_law_great"] "_law_dice" (defScope (topS 63)) (T.fad 50) cdv A outer s H E) (WF E) (defBody (topS 63)) n__law_dice := by
  have nd := sc__law_dice.nd
  have he : Here (cxOf (L2.CX P w) P w T.K mg base ["_law_script", "_law_spot", "_law_cell", "_law_great"] "_law_dice" (defScope (topS 63)) (T.fad 50) cdv A outer s H E) (WF E) false 0 := here_fn hr
  exact (sss_cons (ss_asg (se_if (st_cmp od_lt (se_var (i := 1) rfl (by first | exact Or.inl rfl | exact Or.inr (Or.inl rfl) | exact Or.inr (Or.inr rfl))) (se_callB (bd_len rfl) rfl M.b_len bt_len (sa_cons (se_var (i := 0) rfl (by first | exact Or.inl rfl | exact Or.inr (Or.inl rfl) | exact Or.inr (Or.inr rfl))) sa_nil)) (nomark _)) (se_callT bd_int rfl M.b_int bt_int (sa_cons (se_ixA rfl (se_var (i := 0) rfl (by first | exact Or.inl rfl | exact Or.inr (Or.inl rfl) | exact Or.inr (Or.inr rfl))) (se_var (i := 1) rfl (by first | exact Or.inl rfl | exact Or.inr (Or.inl rfl) | exact Or.inr (Or.inr rfl))) (fun _ _ => rfl)) sa_nil)) (se_op (od_add rfl) (se_op (od_multA rfl) se_int (se_var (i := 1) rfl (by first | exact Or.inl rfl | exact Or.inr (Or.inl rfl) | exact Or.inr (Or.inr rfl)))) se_int)) (sg_name (i := 2) nd rfl (by first | exact Or.inl rfl | exact Or.inr rfl) (by first | exact Or.inl rfl | exact Or.inr rfl)))
    (sss_cons (ss_asg (se_op od_mod (se_callB (bd_max2 rfl) rfl M.b_max bt_max (sa_cons se_int (sa_cons (se_op od_sub (se_callB bd_abs rfl M.b_abs bt_abs (sa_cons (se_var (i := 2) rfl (by first | exact Or.inl rfl | exact Or.inr (Or.inl rfl) | exact Or.inr (Or.inr rfl))) sa_nil)) (se_op od_pow se_int se_int)) sa_nil))) (se_op (od_multA rfl) (se_op od_pow se_int se_int) (se_op od_pow se_int se_int))) (sg_name (i := 3) nd rfl (by first | exact Or.inl rfl | exact Or.inr rfl) (by first | exact Or.inl rfl | exact Or.inr rfl)))
    (sss_cons (ss_ret (se_cel (sa_cons (se_var (i := 3) rfl (by first | exact Or.inl rfl | exact Or.inr (Or.inl rfl) | exact Or.inr (Or.inr rfl))) (sa_cons (se_op (od_add rfl) (se_op (od_add rfl) (se_op (od_add rfl) (se_op (od_multA rfl) (se_op od_mod (se_callB bd_abs rfl M.b_abs bt_abs (sa_cons (se_var (i := 2) rfl (by first | exact Or.inl rfl | exact Or.inr (Or.inl rfl) | exact Or.inr (Or.inr rfl))) sa_nil)) se_int) se_int) (se_op (od_multA rfl) se_int (se_var (i := 1) rfl (by first | exact Or.inl rfl | exact Or.inr (Or.inl rfl) | exact Or.inr (Or.inr rfl))))) (se_op (od_multA rfl) se_int (se_callT bd_int rfl M.b_int bt_int (sa_cons (se_cmp od_lt (se_var (i := 2) rfl (by first | exact Or.inl rfl | exact Or.inr (Or.inl rfl) | exact Or.inr (Or.inr rfl))) se_int (nomark _)) sa_nil)))) se_int) (sa_cons se_int sa_nil)))))
    sss_nil)))

theorem k__law_dice (M : MG T mg) (D0 : DefAt T "_law_dice" "_law_dice" (topS 63) 50 ["_law_script", "_law_spot"])   : CalG T P w mg base false 1 50 c__law_dice :=
  cal_of0 D0 sc__law_dice fun cdv A outer s H E _ hr => b__law_dice M  cdv A outer s H E hr

/-! _law_roll -/
def n__law_roll : DS := (sSeq (sIf (dTest (dOp oGt (dIxA (dVar 0) (dC (.int 0))) (dC (.int 0)))) (sSeq (sAsg (dOp oMod (dCall bInt (dCons (dIxA (dVar 0) (dC (.int 0))) dNil)) (dVar 1)) (gNm 2)) (sSeq (sAsg (dOp oFdiv (dIxA (dVar 0) (dC (.int 0))) (dVar 1)) (gIx (dVar 0) (dC (.int 0)))) (sSeq (sRet (dVar 2)) sPass))) sPass) (sSeq (sAsg (dOp oAdd (dIxA (dVar 0) (dC (.int 2))) (dC (.int 1))) (gIx (dVar 0) (dC (.int 2)))) (sSeq (sAsg (dOp oMod (dCall bInt (dCons (dOp oAdd (dIxA (dVar 0) (dC (.int 1))) (dOp oMultA (dC (.int 86028157)) (dIxA (dVar 0) (dC (.int 2))))) dNil)) (dC (.int 2305843009213693487))) (gNm 3)) (sSeq (sAsg (dOp oAdd (dOp oMultA (dOp oMod (dCall bInt (dCons (dOp oAdd (dOp oMultA (dVar 3) (dVar 3)) (dOp oMultA (dC (.int 107)) (dIxA (dVar 0) (dC (.int 2))))) dNil)) (dC (.int 2305843009213693669))) (dC (.int 6700417))) (dVar 3)) (gNm 4)) (sSeq (sRet (dOp oMod (dCall bInt (dCons (dOp oFdiv (dVar 4) (dC (.int 65539))) dNil)) (dVar 1))) sPass)))))
def c0__law_roll : List D → List O → R D := ar 2 (runF 5 n__law_roll)
def c__law_roll : List D → List O → R D := Den.focus (Den.apart c0__law_roll)
theorem sc__law_roll : FnScope ["_law_dice_here", "_law_most", "_law_found", "_law_one", "_law_two"] ["_law_dice_here", "_law_most"] (defScope (topS 64)) := ⟨rfl, rfl, rfl, by decide +kernel, rfl, by decide +kernel, by decide +kernel⟩
theorem b__law_roll (M : MG T mg)  (cdv : Value) (A : Around) (outer : List Env) (s : Shared) (H : Hp) (E : XK) (hr : Room 0 (A.deeper (envOfC "_law_roll" (defScope (topS 64)) s.heap.objs.size (T.fad 51) cdv))) :
    SSs T (cxOf (L2.CX P w) P w T.K mg base ["_law_dice_here", "_law_most", "_law_found", "_law_one", "_law_two"] "_law_roll" (defScope (topS 64)) (T.fad 51) cdv A outer s H E) (WF E) (defBody (topS 64)) n__law_roll := by
  have nd := sc__law_roll.nd
  have he : Here (cxOf (L2.CX P w) P w T.K mg base ["_law_dice_here", "_law_most", "_law_found", "_law_one", "_law_two"] "_law_roll" (defScope (topS 64)) (T.fad 51) cdv A outer s H E) (WF E) false 0 := here_fn hr
  exact (sss_cons (ss_if (st_cmp od_gt (se_ixA rfl (se_var (i := 0) rfl (by first | exact Or.inl rfl | exact Or.inr (Or.inl rfl) | exact Or.inr (Or.inr rfl))) se_int (fun _ _ => rfl)) se_int (nomark _)) ((sss_cons (ss_asg (se_op od_mod (se_callT bd_int rfl M.b_int bt_int (sa_cons (se_ixA rfl (se_var (i := 0) rfl (by first | exact Or.inl rfl | exact Or.inr (Or.inl rfl) | exact Or.inr (Or.inr rfl))) se_int (fun _ _ => rfl)) sa_nil)) (se_var (i := 1) rfl (by first | exact Or.inl rfl | exact Or.inr (Or.inl rfl) | exact Or.inr (Or.inr rfl)))) (sg_name (i := 2) nd rfl (by first | exact Or.inl rfl | exact Or.inr rfl) (by first | exact Or.inl rfl | exact Or.inr rfl)))
    (sss_cons (ss_asg (se_op od_fdiv (se_ixA rfl (se_var (i := 0) rfl (by first | exact Or.inl rfl | exact Or.inr (Or.inl rfl) | exact Or.inr (Or.inr rfl))) se_int (fun _ _ => rfl)) (se_var (i := 1) rfl (by first | exact Or.inl rfl | exact Or.inr (Or.inl rfl) | exact Or.inr (Or.inr rfl)))) (sg_ix (W := W0) (se_var (i := 0) rfl (by first | exact Or.inl rfl | exact Or.inr (Or.inl rfl) | exact Or.inr (Or.inr rfl))) se_int (pg_sub pe_w pe_w set_list)))
    (sss_cons (ss_ret (se_var (i := 2) rfl (by first | exact Or.inl rfl | exact Or.inr (Or.inl rfl) | exact Or.inr (Or.inr rfl))))
    sss_nil)))) (sss_nil))
    (sss_cons (ss_asg (se_op (od_add rfl) (se_ixA rfl (se_var (i := 0) rfl (by first | exact Or.inl rfl | exact Or.inr (Or.inl rfl) | exact Or.inr (Or.inr rfl))) se_int (fun _ _ => rfl)) se_int) (sg_ix (W := W0) (se_var (i := 0) rfl (by first | exact Or.inl rfl | exact Or.inr (Or.inl rfl) | exact Or.inr (Or.inr rfl))) se_int (pg_sub pe_w pe_w set_list)))
    (sss_cons (ss_asg (se_op od_mod (se_callT bd_int rfl M.b_int bt_int (sa_cons (se_op (od_add rfl) (se_ixA rfl (se_var (i := 0) rfl (by first | exact Or.inl rfl | exact Or.inr (Or.inl rfl) | exact Or.inr (Or.inr rfl))) se_int (fun _ _ => rfl)) (se_op (od_multA rfl) se_int (se_ixA rfl (se_var (i := 0) rfl (by first | exact Or.inl rfl | exact Or.inr (Or.inl rfl) | exact Or.inr (Or.inr rfl))) se_int (fun _ _ => rfl)))) sa_nil)) se_int) (sg_name (i := 3) nd rfl (by first | exact Or.inl rfl | exact Or.inr rfl) (by first | exact Or.inl rfl | exact Or.inr rfl)))
    (sss_cons (ss_asg (se_op (od_add rfl) (se_op (od_multA rfl) (se_op od_mod (se_callT bd_int rfl M.b_int bt_int (sa_cons (se_op (od_add rfl) (se_op (od_multA rfl) (se_var (i := 3) rfl (by first | exact Or.inl rfl | exact Or.inr (Or.inl rfl) | exact Or.inr (Or.inr rfl))) (se_var (i := 3) rfl (by first | exact Or.inl rfl | exact Or.inr (Or.inl rfl) | exact Or.inr (Or.inr rfl)))) (se_op (od_multA rfl) se_int (se_ixA rfl (se_var (i := 0) rfl (by first | exact Or.inl rfl | exact Or.inr (Or.inl rfl) | exact Or.inr (Or.inr rfl))) se_int (fun _ _ => rfl)))) sa_nil)) se_int) se_int) (se_var (i := 3) rfl (by first | exact Or.inl rfl | exact Or.inr (Or.inl rfl) | exact Or.inr (Or.inr rfl)))) (sg_name (i := 4) nd rfl (by first | exact Or.inl rfl | exact Or.inr rfl) (by first | exact Or.inl rfl | exact Or.inr rfl)))
    (sss_cons (ss_ret (se_op od_mod (se_callT bd_int rfl M.b_int bt_int (sa_cons (se_op od_fdiv (se_var (i := 4) rfl (by first | exact Or.inl rfl | exact Or.inr (Or.inl rfl) | exact Or.inr (Or.inr rfl))) se_int) sa_nil)) (se_var (i := 1) rfl (by first | exact Or.inl rfl | exact Or.inr (Or.inl rfl) | exact Or.inr (Or.inr rfl)))))
    sss_nil)))))

theorem k__law_roll (M : MG T mg) (D0 : DefAt T "_law_roll" "_law_roll" (topS 64) 51 ["_law_dice_here", "_law_most"])   : CalG T P w mg base false 1 51 c__law_roll :=
  ((cal_of D0 sc__law_roll fun cdv A outer s H E _ hr => b__law_roll M  cdv A outer s H E hr).apart).focus

/-! _law_pick -/
def n__law_pick : DS := (sSeq (sRet (dIxA (dVar 1) (dFn c__law_roll (dCons (dVar 0) (dCons (dCall bLen (dCons (dVar 1) dNil)) dNil))))) sPass)
def c0__law_pick : List D → List O → R D := ar 2 (runF 2 n__law_pick)
def c__law_pick : List D → List O → R D := Den.focus (Den.apart c0__law_pick)
theorem sc__law_pick : FnScope ["_law_dice_here", "_law_items"] ["_law_dice_here", "_law_items"] (defScope (topS 65)) := ⟨rfl, rfl, rfl, by decide +kernel, rfl, by decide +kernel, by decide +kernel⟩
theorem b__law_pick (M : MG T mg) (C__law_roll : CalG T P w mg base false 1 51 c__law_roll) (cdv : Value) (A : Around) (outer : List Env) (s : Shared) (H : Hp) (E : XK) (hr : Room 1 (A.deeper (envOfC "_law_pick" (defScope (topS 65)) s.heap.objs.size (T.fad 52) cdv))) :
    SSs T (cxOf (L2.CX P w) P w T.K mg base ["_law_dice_here", "_law_items"] "_law_pick" (defScope (topS 65)) (T.fad 52) cdv A outer s H E) (WF E) (defBody (topS 65)) n__law_pick := by
  have nd := sc__law_pick.nd
  have he : Here (cxOf (L2.CX P w) P w T.K mg base ["_law_dice_here", "_law_items"] "_law_pick" (defScope (topS 65)) (T.fad 52) cdv A outer s H E) (WF E) false 1 := here_fn hr
  exact (sss_cons (ss_ret (se_ixA rfl (se_var (i := 1) rfl (by first | exact Or.inl rfl | exact Or.inr (Or.inl rfl) | exact Or.inr (Or.inr rfl))) (se_fnCall (calX (C__law_roll.mono (by decide))) he rfl M.f__law_roll (sa_cons (se_var (i := 0) rfl (by first | exact Or.inl rfl | exact Or.inr (Or.inl rfl) | exact Or.inr (Or.inr rfl))) (sa_cons (se_callB (bd_len rfl) rfl M.b_len bt_len (sa_cons (se_var (i := 1) rfl (by first | exact Or.inl rfl | exact Or.inr (Or.inl rfl) | exact Or.inr (Or.inr rfl))) sa_nil)) sa_nil))) (fun _ _ => rfl)))
    sss_nil)

theorem k__law_pick (M : MG T mg) (D0 : DefAt T "_law_pick" "_law_pick" (topS 65) 52 ["_law_dice_here", "_law_items"]) (C__law_roll : CalG T P w mg base false 1 51 c__law_roll)  : CalG T P w mg base false 2 52 c__law_pick :=
  ((cal_of D0 sc__law_pick fun cdv A outer s H E _ hr => b__law_pick M C__law_roll cdv A outer s H E hr).apart).focus

/-! lambda 0 -/
theorem lm_0 (M : MG T mg) : lms 0 = lamAt (lamQ (envOfC "_law_right" (defScope (topS 67)) 0 0 (.ref 0))) (topS 67) 12 1 := rfl
def db_0 : DE := (dFn c_is_led_or_unlike (dCons (dVar 0) (dCons (dVar 1) (dCons (dC .non) dNil))))
theorem lsc_0 : FnScope ["_law_one", "_law_two"] ["_law_one", "_law_two"] (lamAt (lamQ (envOfC "_law_right" (defScope (topS 67)) 0 0 (.ref 0))) (topS 67) 12 1).scope := ⟨rfl, rfl, rfl, by decide +kernel, rfl, by decide +kernel, by decide +kernel⟩
theorem lb_0 (M : MG T mg) (C_is_led_or_unlike : CalG T P w mg base false 6 49 c_is_led_or_unlike) (f c' : Addr) (A : Around) (outer : List Env) (s : Shared) (H : Hp) (E : XK) (hr : Room 6 (A.deeper (envOfC (lamAt (lamQ (envOfC "_law_right" (defScope (topS 67)) 0 0 (.ref 0))) (topS 67) 12 1).q (lamAt (lamQ (envOfC "_law_right" (defScope (topS 67)) 0 0 (.ref 0))) (topS 67) 12 1).scope s.heap.objs.size f (.ref c')))) :
    SE T (cxOf (L2.CX P w) P w T.K mg base ["_law_one", "_law_two"] (lamAt (lamQ (envOfC "_law_right" (defScope (topS 67)) 0 0 (.ref 0))) (topS 67) 12 1).q (lamAt (lamQ (envOfC "_law_right" (defScope (topS 67)) 0 0 (.ref 0))) (topS 67) 12 1).scope f (.ref c') A outer s H E) (WF E) (lamAt (lamQ (envOfC "_law_right" (defScope (topS 67)) 0 0 (.ref 0))) (topS 67) 12 1).body db_0 := by
  have he : Here (cxOf (L2.CX P w) P w T.K mg base ["_law_one", "_law_two"] (lamAt (lamQ (envOfC "_law_right" (defScope (topS 67)) 0 0 (.ref 0))) (topS 67) 12 1).q (lamAt (lamQ (envOfC "_law_right" (defScope (topS 67)) 0 0 (.ref 0))) (topS 67) 12 1).scope f (.ref c') A outer s H E) (WF E) false 6 := here_fn hr
  exact (se_fnCall (calX (C_is_led_or_unlike.mono (by decide))) he rfl M.f_is_led_or_unlike (sa_cons (se_var (i := 0) rfl (by first | exact Or.inl rfl | exact Or.inr (Or.inl rfl) | exact Or.inr (Or.inr rfl))) (sa_cons (se_var (i := 1) rfl (by first | exact Or.inl rfl | exact Or.inr (Or.inl rfl) | exact Or.inr (Or.inr rfl))) (sa_cons se_non sa_nil))))
theorem kl_0 (M : MG T mg) (C_is_led_or_unlike : CalG T P w mg base false 6 49 c_is_led_or_unlike) : LamG T P w mg base 7 0 2 db_0 :=
  lamG_at M.lm (lm_0 M) lsc_0 (fun _ _ _ us hl => match us, hl with | [_, _], _ => rfl) fun f c' A outer s H E hr => lb_0 M C_is_led_or_unlike f c' A outer s H E hr

def ok__law_right (n : Nat) : Bool := n == 27 || n == 30 || n == 32 || n == 36 || n == 47
def call__law_right (n : Nat) : List D → List O → R D := if n = 27 then c_do_commute else if n = 30 then c_times else if n = 32 then c_product else if n = 36 then c_quarter else if n = 47 then c_led_or_unlike else fun _ _ => .no
def okl__law_right (n : Nat) : Bool := n == 0
def npl__law_right (n : Nat) : Nat := if n = 0 then 2 else 0
def dbl__law_right (n : Nat) : DE := if n = 0 then db_0 else fun _ _ => .no
/-! _law_right -/
theorem sc__law_right : FnScope ["_law_dice_here", "_law_none", "_law_row", "_law_picks", "_law_indices", "_law_good", "_law_met_here", "_law_due", "_law_call", "_law_value", "_law_word"] ["_law_dice_here"] (defScope (topS 67)) := ⟨rfl, rfl, rfl, by decide +kernel, rfl, by decide +kernel, by decide +kernel⟩
def n__law_right_0 : DS := (sAsg (dFn c__law_pick (dCons (dVar 0) (dCons (dLst (dCons (dC .non) (dCons (dC (.int 0)) (dCons (dC (.str "")) (dCons (dC (.str "+")) (dCons (dC (.str "X")) (dCons (dC (.str "+x")) (dCons (dC (.str "+XA")) (dCons (dC (.str "*X")) (dCons (dOp oAdd (dC (.str "+")) (dOp oMultA (dC (.str "I")) (dC (.int 13)))) (dCons (dTup (dCons (dC (.str "+X")) dNil)) (dCons (dLst (dCons (dC (.str "+X")) dNil)) (dCons (dC (.bl true)) (dCons (dC (.str "+X ")) (dCons (dC (.str "++X")) (dCons dDct0 dNil)))))))))))))))) dNil))) (gNm 1))
theorem b__law_right_0 (M : MG T mg) (C__law_pick : CalG T P w mg base false 2 52 c__law_pick) (C_bits_of : CalG T P w mg base false 3 28 c_bits_of) (C_do_commute : CalG T P w mg base false 4 27 c_do_commute) (C_times : CalG T P w mg base false 4 30 c_times) (C_product : CalG T P w mg base false 4 32 c_product) (C_quarter : CalG T P w mg base false 5 36 c_quarter) (C_led_or_unlike : CalG T P w mg base false 7 47 c_led_or_unlike) (C_product_of : CalG T P w mg base false 5 34 c_product_of) (C_is_led_or_unlike : CalG T P w mg base false 6 49 c_is_led_or_unlike) (C_is_operator : CalG T P w mg base false 1 16 c_is_operator) (D__law_met : DefAt T "_law_met" "_law_met" (topS 66) 53 ["_law_call"]) {c Pt : Addr} (TB : LamX.TabB base mg c Pt) (hmT : (Pt, lamQ (envOfC "_law_right" (defScope (topS 67)) 0 0 (.ref c))) ∈ T.tbs) (huT : ∀ q ∈ T.tbs, q.1 = Pt → q.2 = lamQ (envOfC "_law_right" (defScope (topS 67)) 0 0 (.ref c)))  (A : Around) (outer : List Env) (s : Shared) (H : Hp) (E : XK) (hr : Room 9 (A.deeper (envOfC "_law_right" (defScope (topS 67)) s.heap.objs.size (T.fad 54) (.ref c)))) :
    SS T (cxOf (L2.CX P w) P w T.K mg base ["_law_dice_here", "_law_none", "_law_row", "_law_picks", "_law_indices", "_law_good", "_law_met_here", "_law_due", "_law_call", "_law_value", "_law_word"] "_law_right" (defScope (topS 67)) (T.fad 54) (.ref c) A outer s H E) (WF E) ((defBody (topS 67)).getD 0 (.Pass ⟨0, 0, 0, 0⟩)) n__law_right_0 := by
  have nd := sc__law_right.nd
  have he : Here (cxOf (L2.CX P w) P w T.K mg base ["_law_dice_here", "_law_none", "_law_row", "_law_picks", "_law_indices", "_law_good", "_law_met_here", "_law_due", "_law_call", "_law_value", "_law_word"] "_law_right" (defScope (topS 67)) (T.fad 54) (.ref c) A outer s H E) (WF E) false 9 := here_fn hr
  exact (ss_asg (se_fnCall (calX (C__law_pick.mono (by decide))) he rfl M.f__law_pick (sa_cons (se_var (i := 0) rfl (by first | exact Or.inl rfl | exact Or.inr (Or.inl rfl) | exact Or.inr (Or.inr rfl))) (sa_cons (se_lst (sa_cons se_non (sa_cons se_int (sa_cons se_str (sa_cons se_str (sa_cons se_str (sa_cons se_str (sa_cons se_str (sa_cons se_str (sa_cons (se_op (od_add rfl) se_str (se_op (od_multA rfl) se_str se_int)) (sa_cons (se_tup (sa_cons se_str sa_nil)) (sa_cons (se_lst (sa_cons se_str sa_nil)) (sa_cons se_bl (sa_cons se_str (sa_cons se_str (sa_cons se_dct0 sa_nil)))))))))))))))) sa_nil))) (sg_name (i := 1) nd rfl (by first | exact Or.inl rfl | exact Or.inr rfl) (by first | exact Or.inl rfl | exact Or.inr rfl)))
def n__law_right_1 : DS := (sAsg (dFn c__law_pick (dCons (dVar 0) (dCons (dLst (dCons (dC .non) (dCons (dC (.int 0)) (dCons (dTup dNil) (dCons (dC (.str "+X")) (dCons (dLst (dCons (dC (.str "+X")) dNil)) (dCons (dTup (dCons (dC (.str "+X")) (dCons (dC (.str "+XX")) dNil))) (dCons (dTup (dCons (dC (.str "+X")) (dCons (dC .non) dNil))) (dCons (dTup (dCons (dC (.str "X")) dNil)) (dCons (dOp oMultA (dTup (dCons (dC (.str "+X")) dNil)) (dC (.int 25))) (dCons dDct0 (dCons (dTup (dCons (dTup (dCons (dC (.str "+X")) dNil)) dNil)) (dCons (dTup (dCons (dC (.str "+X")) (dCons (dC (.str "")) dNil))) dNil))))))))))))) dNil))) (gNm 2))
theorem b__law_right_1 (M : MG T mg) (C__law_pick : CalG T P w mg base false 2 52 c__law_pick) (C_bits_of : CalG T P w mg base false 3 28 c_bits_of) (C_do_commute : CalG T P w mg base false 4 27 c_do_commute) (C_times : CalG T P w mg base false 4 30 c_times) (C_product : CalG T P w mg base false 4 32 c_product) (C_quarter : CalG T P w mg base false 5 36 c_quarter) (C_led_or_unlike : CalG T P w mg base false 7 47 c_led_or_unlike) (C_product_of : CalG T P w mg base false 5 34 c_product_of) (C_is_led_or_unlike : CalG T P w mg base false 6 49 c_is_led_or_unlike) (C_is_operator : CalG T P w mg base false 1 16 c_is_operator) (D__law_met : DefAt T "_law_met" "_law_met" (topS 66) 53 ["_law_call"]) {c Pt : Addr} (TB : LamX.TabB base mg c Pt) (hmT : (Pt, lamQ (envOfC "_law_right" (defScope (topS 67)) 0 0 (.ref c))) ∈ T.tbs) (huT : ∀ q ∈ T.tbs, q.1 = Pt → q.2 = lamQ (envOfC "_law_right" (defScope (topS 67)) 0 0 (.ref c)))  (A : Around) (outer : List Env) (s : Shared) (H : Hp) (E : XK) (hr : Room 9 (A.deeper (envOfC "_law_right" (defScope (topS 67)) s.heap.objs.size (T.fad 54) (.ref c)))) :
    SS T (cxOf (L2.CX P w) P w T.K mg base ["_law_dice_here", "_law_none", "_law_row", "_law_picks", "_law_indices", "_law_good", "_law_met_here", "_law_due", "_law_call", "_law_value", "_law_word"] "_law_right" (defScope (topS 67)) (T.fad 54) (.ref c) A outer s H E) (WF E) ((defBody (topS 67)).getD 1 (.Pass ⟨0, 0, 0, 0⟩)) n__law_right_1 := by
  have nd := sc__law_right.nd
  have he : Here (cxOf (L2.CX P w) P w T.K mg base ["_law_dice_here", "_law_none", "_law_row", "_law_picks", "_law_indices", "_law_good", "_law_met_here", "_law_due", "_law_call", "_law_value", "_law_word"] "_law_right" (defScope (topS 67)) (T.fad 54) (.ref c) A outer s H E) (WF E) false 9 := here_fn hr
  exact (ss_asg (se_fnCall (calX (C__law_pick.mono (by decide))) he rfl M.f__law_pick (sa_cons (se_var (i := 0) rfl (by first | exact Or.inl rfl | exact Or.inr (Or.inl rfl) | exact Or.inr (Or.inr rfl))) (sa_cons (se_lst (sa_cons se_non (sa_cons se_int (sa_cons (se_tup sa_nil) (sa_cons se_str (sa_cons (se_lst (sa_cons se_str sa_nil)) (sa_cons (se_tup (sa_cons se_str (sa_cons se_str sa_nil))) (sa_cons (se_tup (sa_cons se_str (sa_cons se_non sa_nil))) (sa_cons (se_tup (sa_cons se_str sa_nil)) (sa_cons (se_op (od_multA rfl) (se_tup (sa_cons se_str sa_nil)) se_int) (sa_cons se_dct0 (sa_cons (se_tup (sa_cons (se_tup (sa_cons se_str sa_nil)) sa_nil)) (sa_cons (se_tup (sa_cons se_str (sa_cons se_str sa_nil))) sa_nil))))))))))))) sa_nil))) (sg_name (i := 2) nd rfl (by first | exact Or.inl rfl | exact Or.inr rfl) (by first | exact Or.inl rfl | exact Or.inr rfl)))
def n__law_right_2 : DS := (sAsg (dLst (dCons (dC .non) (dCons (dC (.int 0)) (dCons (dTup dNil) (dCons (dLst (dCons (dC (.int 0)) dNil)) (dCons (dTup (dCons (dC (.int 1)) (dCons (dC (.int 0)) dNil))) (dCons (dTup (dCons (dC (.int 0)) (dCons (dC (.int 0)) dNil))) (dCons (dTup (dCons (dC (.int 2)) dNil)) (dCons (dTup (dCons (dUn oNeg (dC (.int 1))) dNil)) (dCons (dTup (dCons (dC (.int 0)) (dCons (dC (.bl true)) dNil))) (dCons (dC (.str "0")) (dCons (dTup (dCons (dC .non) dNil)) (dCons dDct0 (dCons (dTup (dCons (dC (.int 0)) (dCons (dOp oPow (dC (.int 10)) (dC (.int 60))) dNil))) dNil)))))))))))))) (gNm 3))
theorem b__law_right_2 (M : MG T mg) (C__law_pick : CalG T P w mg base false 2 52 c__law_pick) (C_bits_of : CalG T P w mg base false 3 28 c_bits_of) (C_do_commute : CalG T P w mg base false 4 27 c_do_commute) (C_times : CalG T P w mg base false 4 30 c_times) (C_product : CalG T P w mg base false 4 32 c_product) (C_quarter : CalG T P w mg base false 5 36 c_quarter) (C_led_or_unlike : CalG T P w mg base false 7 47 c_led_or_unlike) (C_product_of : CalG T P w mg base false 5 34 c_product_of) (C_is_led_or_unlike : CalG T P w mg base false 6 49 c_is_led_or_unlike) (C_is_operator : CalG T P w mg base false 1 16 c_is_operator) (D__law_met : DefAt T "_law_met" "_law_met" (topS 66) 53 ["_law_call"]) {c Pt : Addr} (TB : LamX.TabB base mg c Pt) (hmT : (Pt, lamQ (envOfC "_law_right" (defScope (topS 67)) 0 0 (.ref c))) ∈ T.tbs) (huT : ∀ q ∈ T.tbs, q.1 = Pt → q.2 = lamQ (envOfC "_law_right" (defScope (topS 67)) 0 0 (.ref c)))  (A : Around) (outer : List Env) (s : Shared) (H : Hp) (E : XK) (hr : Room 9 (A.deeper (envOfC "_law_right" (defScope (topS 67)) s.heap.objs.size (T.fad 54) (.ref c)))) :
    SS T (cxOf (L2.CX P w) P w T.K mg base ["_law_dice_here", "_law_none", "_law_row", "_law_picks", "_law_indices", "_law_good", "_law_met_here", "_law_due", "_law_call", "_law_value", "_law_word"] "_law_right" (defScope (topS 67)) (T.fad 54) (.ref c) A outer s H E) (WF E) ((defBody (topS 67)).getD 2 (.Pass ⟨0, 0, 0, 0⟩)) n__law_right_2 := by
  have nd := sc__law_right.nd
  have he : Here (cxOf (L2.CX P w) P w T.K mg base ["_law_dice_here", "_law_none", "_law_row", "_law_picks", "_law_indices", "_law_good", "_law_met_here", "_law_due", "_law_call", "_law_value", "_law_word"] "_law_right" (defScope (topS 67)) (T.fad 54) (.ref c) A outer s H E) (WF E) false 9 := here_fn hr
  exact (ss_asg (se_lst (sa_cons se_non (sa_cons se_int (sa_cons (se_tup sa_nil) (sa_cons (se_lst (sa_cons se_int sa_nil)) (sa_cons (se_tup (sa_cons se_int (sa_cons se_int sa_nil))) (sa_cons (se_tup (sa_cons se_int (sa_cons se_int sa_nil))) (sa_cons (se_tup (sa_cons se_int sa_nil)) (sa_cons (se_tup (sa_cons (se_neg se_int) sa_nil)) (sa_cons (se_tup (sa_cons se_int (sa_cons se_bl sa_nil))) (sa_cons se_str (sa_cons (se_tup (sa_cons se_non sa_nil)) (sa_cons se_dct0 (sa_cons (se_tup (sa_cons se_int (sa_cons (se_op od_pow se_int se_int) sa_nil))) sa_nil)))))))))))))) (sg_name (i := 3) nd rfl (by first | exact Or.inl rfl | exact Or.inr rfl) (by first | exact Or.inl rfl | exact Or.inr rfl)))
def n__law_right_3 : DS := (sAsg (dTup (dCons (dFn c__law_pick (dCons (dVar 0) (dCons (dVar 3) dNil))) (dCons (dTup (dCons (dC (.str "+XZ")) (dCons (dC (.str "+ZX")) dNil))) dNil))) (gTpA 2 (gsCons (gNm 4) (gsCons (gNm 5) gsNil))))
theorem b__law_right_3 (M : MG T mg) (C__law_pick : CalG T P w mg base false 2 52 c__law_pick) (C_bits_of : CalG T P w mg base false 3 28 c_bits_of) (C_do_commute : CalG T P w mg base false 4 27 c_do_commute) (C_times : CalG T P w mg base false 4 30 c_times) (C_product : CalG T P w mg base false 4 32 c_product) (C_quarter : CalG T P w mg base false 5 36 c_quarter) (C_led_or_unlike : CalG T P w mg base false 7 47 c_led_or_unlike) (C_product_of : CalG T P w mg base false 5 34 c_product_of) (C_is_led_or_unlike : CalG T P w mg base false 6 49 c_is_led_or_unlike) (C_is_operator : CalG T P w mg base false 1 16 c_is_operator) (D__law_met : DefAt T "_law_met" "_law_met" (topS 66) 53 ["_law_call"]) {c Pt : Addr} (TB : LamX.TabB base mg c Pt) (hmT : (Pt, lamQ (envOfC "_law_right" (defScope (topS 67)) 0 0 (.ref c))) ∈ T.tbs) (huT : ∀ q ∈ T.tbs, q.1 = Pt → q.2 = lamQ (envOfC "_law_right" (defScope (topS 67)) 0 0 (.ref c)))  (A : Around) (outer : List Env) (s : Shared) (H : Hp) (E : XK) (hr : Room 9 (A.deeper (envOfC "_law_right" (defScope (topS 67)) s.heap.objs.size (T.fad 54) (.ref c)))) :
    SS T (cxOf (L2.CX P w) P w T.K mg base ["_law_dice_here", "_law_none", "_law_row", "_law_picks", "_law_indices", "_law_good", "_law_met_here", "_law_due", "_law_call", "_law_value", "_law_word"] "_law_right" (defScope (topS 67)) (T.fad 54) (.ref c) A outer s H E) (WF E) ((defBody (topS 67)).getD 3 (.Pass ⟨0, 0, 0, 0⟩)) n__law_right_3 := by
  have nd := sc__law_right.nd
  have he : Here (cxOf (L2.CX P w) P w T.K mg base ["_law_dice_here", "_law_none", "_law_row", "_law_picks", "_law_indices", "_law_good", "_law_met_here", "_law_due", "_law_call", "_law_value", "_law_word"] "_law_right" (defScope (topS 67)) (T.fad 54) (.ref c) A outer s H E) (WF E) false 9 := here_fn hr
  exact (ss_asg (se_tup (sa_cons (se_fnCall (calX (C__law_pick.mono (by decide))) he rfl M.f__law_pick (sa_cons (se_var (i := 0) rfl (by first | exact Or.inl rfl | exact Or.inr (Or.inl rfl) | exact Or.inr (Or.inr rfl))) (sa_cons (se_var (i := 3) rfl (by first | exact Or.inl rfl | exact Or.inr (Or.inl rfl) | exact Or.inr (Or.inr rfl))) sa_nil))) (sa_cons (se_tup (sa_cons se_str (sa_cons se_str sa_nil))) sa_nil))) (sg_tupA rfl rfl (sgs_cons (sg_name (i := 4) nd rfl (by first | exact Or.inl rfl | exact Or.inr rfl) (by first | exact Or.inl rfl | exact Or.inr rfl)) (sgs_cons (sg_name (i := 5) nd rfl (by first | exact Or.inl rfl | exact Or.inr rfl) (by first | exact Or.inl rfl | exact Or.inr rfl)) sgs_nil)) rfl rfl))
def n__law_right_4 : DS := (sPar 6 7 (dCons (dCel (dCons (dMet isub xfs l__law_met fine__law_met 1 (dFn c_bits_of (dCons (dVar 1) dNil))) dNil)) (dCons (dLst (dCons (dC (.str "operator")) dNil)) dNil)))
theorem b__law_right_4 (M : MG T mg) (C__law_pick : CalG T P w mg base false 2 52 c__law_pick) (C_bits_of : CalG T P w mg base false 3 28 c_bits_of) (C_do_commute : CalG T P w mg base false 4 27 c_do_commute) (C_times : CalG T P w mg base false 4 30 c_times) (C_product : CalG T P w mg base false 4 32 c_product) (C_quarter : CalG T P w mg base false 5 36 c_quarter) (C_led_or_unlike : CalG T P w mg base false 7 47 c_led_or_unlike) (C_product_of : CalG T P w mg base false 5 34 c_product_of) (C_is_led_or_unlike : CalG T P w mg base false 6 49 c_is_led_or_unlike) (C_is_operator : CalG T P w mg base false 1 16 c_is_operator) (D__law_met : DefAt T "_law_met" "_law_met" (topS 66) 53 ["_law_call"]) {c Pt : Addr} (TB : LamX.TabB base mg c Pt) (hmT : (Pt, lamQ (envOfC "_law_right" (defScope (topS 67)) 0 0 (.ref c))) ∈ T.tbs) (huT : ∀ q ∈ T.tbs, q.1 = Pt → q.2 = lamQ (envOfC "_law_right" (defScope (topS 67)) 0 0 (.ref c)))  (A : Around) (outer : List Env) (s : Shared) (H : Hp) (E : XK) (hr : Room 9 (A.deeper (envOfC "_law_right" (defScope (topS 67)) s.heap.objs.size (T.fad 54) (.ref c)))) :
    SS T (cxOf (L2.CX P w) P w T.K mg base ["_law_dice_here", "_law_none", "_law_row", "_law_picks", "_law_indices", "_law_good", "_law_met_here", "_law_due", "_law_call", "_law_value", "_law_word"] "_law_right" (defScope (topS 67)) (T.fad 54) (.ref c) A outer s H E) (WF E) ((defBody (topS 67)).getD 4 (.Pass ⟨0, 0, 0, 0⟩)) n__law_right_4 := by
  have nd := sc__law_right.nd
  have he : Here (cxOf (L2.CX P w) P w T.K mg base ["_law_dice_here", "_law_none", "_law_row", "_law_picks", "_law_indices", "_law_good", "_law_met_here", "_law_due", "_law_call", "_law_value", "_law_word"] "_law_right" (defScope (topS 67)) (T.fad 54) (.ref c) A outer s H E) (WF E) false 9 := here_fn hr
  exact (ss_par (i := 6) (j := 7) rfl nd rfl rfl (by decide) rfl rfl (sa_cons (se_cel (sa_cons (se_metF (k := 7) (s1 := topS 66) (Ng := ["_law_call"]) rfl rfl D__law_met M.xf rfl rfl M.f__law_met sc__law_met rfl (by first | exact Or.inl rfl | exact Or.inr (Or.inl rfl) | exact Or.inr (Or.inr rfl)) (fun _ => rfl) (met__law_met M) (metf__law_met M) TB rfl hmT huT (hr.mono (by decide)) (LamX.lamS_by (sc := defScope (topS 67)) (by decide +kernel)) rfl (fun _ _ _ _ _ => rfl) (fun _ _ _ _ _ _ _ hr => have he := here_lam hr; (se_fnCall (calX (C_bits_of.mono (by decide))) he rfl M.f_bits_of (sa_cons (se_var (i := 1) rfl (by first | exact Or.inl rfl | exact Or.inr (Or.inl rfl) | exact Or.inr (Or.inr rfl))) sa_nil)))) sa_nil)) (sa_cons (se_lst (sa_cons se_str sa_nil)) sa_nil)) rfl)
def n__law_right_5 : DS := (sFor (jSeqA (dTup (dCons (dC (.fn 27)) (dCons (dC (.fn 30)) (dCons (dC (.fn 32)) (dCons (dC (.fn 36)) dNil)))))) (gNm 8) (sSeq (sExpr (dMeth isL mApp (dVar 6) (dCons (dMet isub xfs l__law_met fine__law_met 1 (dFnW ok__law_right call__law_right okl__law_right (fun n => runL (npl__law_right n) (dbl__law_right n)) (dVar 8) (dCons (dVar 1) (dCons (dVar 1) dNil)))) dNil))) (sSeq (sExpr (dMeth isL mApp (dVar 6) (dCons (dMet isub xfs l__law_met fine__law_met 1 (dFnW ok__law_right call__law_right okl__law_right (fun n => runL (npl__law_right n) (dbl__law_right n)) (dVar 8) (dCons (dC (.str "+XX")) (dCons (dVar 1) dNil)))) dNil))) (sSeq (sExpr (dMeth isL mApp (dVar 6) (dCons (dMet isub xfs l__law_met fine__law_met 1 (dFnW ok__law_right call__law_right okl__law_right (fun n => runL (npl__law_right n) (dbl__law_right n)) (dVar 8) (dCons (dC (.str "+XX")) (dCons (dC (.str "-X")) dNil)))) dNil))) (sSeq (sExpr (dMeth isL mApp (dVar 6) (dCons (dMet isub xfs l__law_met fine__law_met 1 (dFnW ok__law_right call__law_right okl__law_right (fun n => runL (npl__law_right n) (dbl__law_right n)) (dVar 8) (dCons (dC (.str "-XYZ")) (dCons (dC (.str "+XYZ")) dNil)))) dNil))) (sSeq (sAsg (dOp oAdd (dVar 7) (dLst (dCons (dC (.str "operator")) (dCons (dC (.str "operator")) (dCons (dC (.str "operation")) (dCons (dC (.str "fine")) dNil)))))) (gNm 7)) sPass))))))
theorem b__law_right_5 (M : MG T mg) (C__law_pick : CalG T P w mg base false 2 52 c__law_pick) (C_bits_of : CalG T P w mg base false 3 28 c_bits_of) (C_do_commute : CalG T P w mg base false 4 27 c_do_commute) (C_times : CalG T P w mg base false 4 30 c_times) (C_product : CalG T P w mg base false 4 32 c_product) (C_quarter : CalG T P w mg base false 5 36 c_quarter) (C_led_or_unlike : CalG T P w mg base false 7 47 c_led_or_unlike) (C_product_of : CalG T P w mg base false 5 34 c_product_of) (C_is_led_or_unlike : CalG T P w mg base false 6 49 c_is_led_or_unlike) (C_is_operator : CalG T P w mg base false 1 16 c_is_operator) (D__law_met : DefAt T "_law_met" "_law_met" (topS 66) 53 ["_law_call"]) {c Pt : Addr} (TB : LamX.TabB base mg c Pt) (hmT : (Pt, lamQ (envOfC "_law_right" (defScope (topS 67)) 0 0 (.ref c))) ∈ T.tbs) (huT : ∀ q ∈ T.tbs, q.1 = Pt → q.2 = lamQ (envOfC "_law_right" (defScope (topS 67)) 0 0 (.ref c)))  (A : Around) (outer : List Env) (s : Shared) (H : Hp) (E : XK) (hr : Room 9 (A.deeper (envOfC "_law_right" (defScope (topS 67)) s.heap.objs.size (T.fad 54) (.ref c)))) :
    SS T (cxOf (L2.CX P w) P w T.K mg base ["_law_dice_here", "_law_none", "_law_row", "_law_picks", "_law_indices", "_law_good", "_law_met_here", "_law_due", "_law_call", "_law_value", "_law_word"] "_law_right" (defScope (topS 67)) (T.fad 54) (.ref c) A outer s H E) (WF E) ((defBody (topS 67)).getD 5 (.Pass ⟨0, 0, 0, 0⟩)) n__law_right_5 := by
  have cv : ∀ n, ok__law_right n = true → CalG T P w mg base false 7 n (call__law_right n) := fun n hn => by
    unfold ok__law_right at hn
    simp only [Bool.or_eq_true, beq_iff_eq] at hn
    rcases hn with ((((rfl | rfl) | rfl) | rfl) | rfl)
    · exact C_do_commute.mono (by decide)
    · exact C_times.mono (by decide)
    · exact C_product.mono (by decide)
    · exact C_quarter.mono (by decide)
    · exact C_led_or_unlike.mono (by decide)
  have cl : ∀ n, okl__law_right n = true → LamG T P w mg base 7 n (npl__law_right n) (dbl__law_right n) := fun n hn => by
    unfold okl__law_right at hn
    simp only [Bool.or_eq_true, beq_iff_eq] at hn
    rcases hn with rfl
    · exact (kl_0 M C_is_led_or_unlike).mono (by decide)
  have nd := sc__law_right.nd
  have he : Here (cxOf (L2.CX P w) P w T.K mg base ["_law_dice_here", "_law_none", "_law_row", "_law_picks", "_law_indices", "_law_good", "_law_met_here", "_law_due", "_law_call", "_law_value", "_law_word"] "_law_right" (defScope (topS 67)) (T.fad 54) (.ref c) A outer s H E) (WF E) false 9 := here_fn hr
  exact (ss_for pas_fn rfl (sj_seqA rfl (se_tup (sa_cons (se_fn rfl M.f_do_commute) (sa_cons (se_fn rfl M.f_times) (sa_cons (se_fn rfl M.f_product) (sa_cons (se_fn rfl M.f_quarter) sa_nil)))))) (sg_name (i := 8) nd rfl (by first | exact Or.inl rfl | exact Or.inr rfl) (by first | exact Or.inl rfl | exact Or.inr rfl)) ((sss_cons (ss_expr (se_meth (pe_bm PySem.F.plainAttrs_list PySem.F.slot_list_append PySem.F.type_list_append md_append pe_w pa_w) (chk_list rfl) (se_var (i := 6) rfl (by first | exact Or.inl rfl | exact Or.inr (Or.inl rfl) | exact Or.inr (Or.inr rfl))) (sa_cons (se_metF (k := 7) (s1 := topS 66) (Ng := ["_law_call"]) rfl rfl D__law_met M.xf rfl rfl M.f__law_met sc__law_met rfl (by first | exact Or.inl rfl | exact Or.inr (Or.inl rfl) | exact Or.inr (Or.inr rfl)) (fun _ => rfl) (met__law_met M) (metf__law_met M) TB rfl hmT huT (hr.mono (by decide)) (LamX.lamS_by (sc := defScope (topS 67)) (by decide +kernel)) rfl (fun _ _ _ _ _ => rfl) (fun _ _ _ _ _ _ _ hr => have he := here_lam hr; (se_fnWal (fun n hn => calX ((cv n hn).mono (by decide))) rfl (fun n hn => (cl n hn).mono (by decide)) he (se_var (i := 8) rfl (by first | exact Or.inl rfl | exact Or.inr (Or.inl rfl) | exact Or.inr (Or.inr rfl))) (sa_cons (se_var (i := 1) rfl (by first | exact Or.inl rfl | exact Or.inr (Or.inl rfl) | exact Or.inr (Or.inr rfl))) (sa_cons (se_var (i := 1) rfl (by first | exact Or.inl rfl | exact Or.inr (Or.inl rfl) | exact Or.inr (Or.inr rfl))) sa_nil))))) sa_nil)))
    (sss_cons (ss_expr (se_meth (pe_bm PySem.F.plainAttrs_list PySem.F.slot_list_append PySem.F.type_list_append md_append pe_w pa_w) (chk_list rfl) (se_var (i := 6) rfl (by first | exact Or.inl rfl | exact Or.inr (Or.inl rfl) | exact Or.inr (Or.inr rfl))) (sa_cons (se_metF (k := 7) (s1 := topS 66) (Ng := ["_law_call"]) rfl rfl D__law_met M.xf rfl rfl M.f__law_met sc__law_met rfl (by first | exact Or.inl rfl | exact Or.inr (Or.inl rfl) | exact Or.inr (Or.inr rfl)) (fun _ => rfl) (met__law_met M) (metf__law_met M) TB rfl hmT huT (hr.mono (by decide)) (LamX.lamS_by (sc := defScope (topS 67)) (by decide +kernel)) rfl (fun _ _ _ _ _ => rfl) (fun _ _ _ _ _ _ _ hr => have he := here_lam hr; (se_fnWal (fun n hn => calX ((cv n hn).mono (by decide))) rfl (fun n hn => (cl n hn).mono (by decide)) he (se_var (i := 8) rfl (by first | exact Or.inl rfl | exact Or.inr (Or.inl rfl) | exact Or.inr (Or.inr rfl))) (sa_cons se_str (sa_cons (se_var (i := 1) rfl (by first | exact Or.inl rfl | exact Or.inr (Or.inl rfl) | exact Or.inr (Or.inr rfl))) sa_nil))))) sa_nil)))
    (sss_cons (ss_expr (se_meth (pe_bm PySem.F.plainAttrs_list PySem.F.slot_list_append PySem.F.type_list_append md_append pe_w pa_w) (chk_list rfl) (se_var (i := 6) rfl (by first | exact Or.inl rfl | exact Or.inr (Or.inl rfl) | exact Or.inr (Or.inr rfl))) (sa_cons (se_metF (k := 7) (s1 := topS 66) (Ng := ["_law_call"]) rfl rfl D__law_met M.xf rfl rfl M.f__law_met sc__law_met rfl (by first | exact Or.inl rfl | exact Or.inr (Or.inl rfl) | exact Or.inr (Or.inr rfl)) (fun _ => rfl) (met__law_met M) (metf__law_met M) TB rfl hmT huT (hr.mono (by decide)) (LamX.lamS_by (sc := defScope (topS 67)) (by decide +kernel)) rfl (fun _ _ _ _ _ => rfl) (fun _ _ _ _ _ _ _ hr => have he := here_lam hr; (se_fnWal (fun n hn => calX ((cv n hn).mono (by decide))) rfl (fun n hn => (cl n hn).mono (by decide)) he (se_var (i := 8) rfl (by first | exact Or.inl rfl | exact Or.inr (Or.inl rfl) | exact Or.inr (Or.inr rfl))) (sa_cons se_str (sa_cons se_str sa_nil))))) sa_nil)))
    (sss_cons (ss_expr (se_meth (pe_bm PySem.F.plainAttrs_list PySem.F.slot_list_append PySem.F.type_list_append md_append pe_w pa_w) (chk_list rfl) (se_var (i := 6) rfl (by first | exact Or.inl rfl | exact Or.inr (Or.inl rfl) | exact Or.inr (Or.inr rfl))) (sa_cons (se_metF (k := 7) (s1 := topS 66) (Ng := ["_law_call"]) rfl rfl D__law_met M.xf rfl rfl M.f__law_met sc__law_met rfl (by first | exact Or.inl rfl | exact Or.inr (Or.inl rfl) | exact Or.inr (Or.inr rfl)) (fun _ => rfl) (met__law_met M) (metf__law_met M) TB rfl hmT huT (hr.mono (by decide)) (LamX.lamS_by (sc := defScope (topS 67)) (by decide +kernel)) rfl (fun _ _ _ _ _ => rfl) (fun _ _ _ _ _ _ _ hr => have he := here_lam hr; (se_fnWal (fun n hn => calX ((cv n hn).mono (by decide))) rfl (fun n hn => (cl n hn).mono (by decide)) he (se_var (i := 8) rfl (by first | exact Or.inl rfl | exact Or.inr (Or.inl rfl) | exact Or.inr (Or.inr rfl))) (sa_cons se_str (sa_cons se_str sa_nil))))) sa_nil)))
    (sss_cons (ss_asg (se_op (od_add rfl) (se_var (i := 7) rfl (by first | exact Or.inl rfl | exact Or.inr (Or.inl rfl) | exact Or.inr (Or.inr rfl))) (se_lst (sa_cons se_str (sa_cons se_str (sa_cons se_str (sa_cons se_str sa_nil)))))) (sg_name (i := 7) nd rfl (by first | exact Or.inl rfl | exact Or.inr rfl) (by first | exact Or.inl rfl | exact Or.inr rfl)))
    sss_nil)))))))
def n__law_right_6 : DS := (sExpr (dMeth isL mApp (dVar 6) (dCons (dMet isub xfs l__law_met fine__law_met 1 (dFn c_product (dCons (dC (.str "+X")) (dCons (dC (.str "-Y")) dNil)))) dNil)))
theorem b__law_right_6 (M : MG T mg) (C__law_pick : CalG T P w mg base false 2 52 c__law_pick) (C_bits_of : CalG T P w mg base false 3 28 c_bits_of) (C_do_commute : CalG T P w mg base false 4 27 c_do_commute) (C_times : CalG T P w mg base false 4 30 c_times) (C_product : CalG T P w mg base false 4 32 c_product) (C_quarter : CalG T P w mg base false 5 36 c_quarter) (C_led_or_unlike : CalG T P w mg base false 7 47 c_led_or_unlike) (C_product_of : CalG T P w mg base false 5 34 c_product_of) (C_is_led_or_unlike : CalG T P w mg base false 6 49 c_is_led_or_unlike) (C_is_operator : CalG T P w mg base false 1 16 c_is_operator) (D__law_met : DefAt T "_law_met" "_law_met" (topS 66) 53 ["_law_call"]) {c Pt : Addr} (TB : LamX.TabB base mg c Pt) (hmT : (Pt, lamQ (envOfC "_law_right" (defScope (topS 67)) 0 0 (.ref c))) ∈ T.tbs) (huT : ∀ q ∈ T.tbs, q.1 = Pt → q.2 = lamQ (envOfC "_law_right" (defScope (topS 67)) 0 0 (.ref c)))  (A : Around) (outer : List Env) (s : Shared) (H : Hp) (E : XK) (hr : Room 9 (A.deeper (envOfC "_law_right" (defScope (topS 67)) s.heap.objs.size (T.fad 54) (.ref c)))) :
    SS T (cxOf (L2.CX P w) P w T.K mg base ["_law_dice_here", "_law_none", "_law_row", "_law_picks", "_law_indices", "_law_good", "_law_met_here", "_law_due", "_law_call", "_law_value", "_law_word"] "_law_right" (defScope (topS 67)) (T.fad 54) (.ref c) A outer s H E) (WF E) ((defBody (topS 67)).getD 6 (.Pass ⟨0, 0, 0, 0⟩)) n__law_right_6 := by
  have nd := sc__law_right.nd
  have he : Here (cxOf (L2.CX P w) P w T.K mg base ["_law_dice_here", "_law_none", "_law_row", "_law_picks", "_law_indices", "_law_good", "_law_met_here", "_law_due", "_law_call", "_law_value", "_law_word"] "_law_right" (defScope (topS 67)) (T.fad 54) (.ref c) A outer s H E) (WF E) false 9 := here_fn hr
  exact (ss_expr (se_meth (pe_bm PySem.F.plainAttrs_list PySem.F.slot_list_append PySem.F.type_list_append md_append pe_w pa_w) (chk_list rfl) (se_var (i := 6) rfl (by first | exact Or.inl rfl | exact Or.inr (Or.inl rfl) | exact Or.inr (Or.inr rfl))) (sa_cons (se_metF (k := 7) (s1 := topS 66) (Ng := ["_law_call"]) rfl rfl D__law_met M.xf rfl rfl M.f__law_met sc__law_met rfl (by first | exact Or.inl rfl | exact Or.inr (Or.inl rfl) | exact Or.inr (Or.inr rfl)) (fun _ => rfl) (met__law_met M) (metf__law_met M) TB rfl hmT huT (hr.mono (by decide)) (LamX.lamS_by (sc := defScope (topS 67)) (by decide +kernel)) rfl (fun _ _ _ _ _ => rfl) (fun _ _ _ _ _ _ _ hr => have he := here_lam hr; (se_fnCall (calX (C_product.mono (by decide))) he rfl M.f_product (sa_cons se_str (sa_cons se_str sa_nil))))) sa_nil)))
def n__law_right_7 : DS := (sExpr (dMeth isL mApp (dVar 6) (dCons (dMet isub xfs l__law_met fine__law_met 1 (dFn c_product (dCons (dC (.str "+XII")) (dCons (dC (.str "+ZXX")) dNil)))) dNil)))
theorem b__law_right_7 (M : MG T mg) (C__law_pick : CalG T P w mg base false 2 52 c__law_pick) (C_bits_of : CalG T P w mg base false 3 28 c_bits_of) (C_do_commute : CalG T P w mg base false 4 27 c_do_commute) (C_times : CalG T P w mg base false 4 30 c_times) (C_product : CalG T P w mg base false 4 32 c_product) (C_quarter : CalG T P w mg base false 5 36 c_quarter) (C_led_or_unlike : CalG T P w mg base false 7 47 c_led_or_unlike) (C_product_of : CalG T P w mg base false 5 34 c_product_of) (C_is_led_or_unlike : CalG T P w mg base false 6 49 c_is_led_or_unlike) (C_is_operator : CalG T P w mg base false 1 16 c_is_operator) (D__law_met : DefAt T "_law_met" "_law_met" (topS 66) 53 ["_law_call"]) {c Pt : Addr} (TB : LamX.TabB base mg c Pt) (hmT : (Pt, lamQ (envOfC "_law_right" (defScope (topS 67)) 0 0 (.ref c))) ∈ T.tbs) (huT : ∀ q ∈ T.tbs, q.1 = Pt → q.2 = lamQ (envOfC "_law_right" (defScope (topS 67)) 0 0 (.ref c)))  (A : Around) (outer : List Env) (s : Shared) (H : Hp) (E : XK) (hr : Room 9 (A.deeper (envOfC "_law_right" (defScope (topS 67)) s.heap.objs.size (T.fad 54) (.ref c)))) :
    SS T (cxOf (L2.CX P w) P w T.K mg base ["_law_dice_here", "_law_none", "_law_row", "_law_picks", "_law_indices", "_law_good", "_law_met_here", "_law_due", "_law_call", "_law_value", "_law_word"] "_law_right" (defScope (topS 67)) (T.fad 54) (.ref c) A outer s H E) (WF E) ((defBody (topS 67)).getD 7 (.Pass ⟨0, 0, 0, 0⟩)) n__law_right_7 := by
  have nd := sc__law_right.nd
  have he : Here (cxOf (L2.CX P w) P w T.K mg base ["_law_dice_here", "_law_none", "_law_row", "_law_picks", "_law_indices", "_law_good", "_law_met_here", "_law_due", "_law_call", "_law_value", "_law_word"] "_law_right" (defScope (topS 67)) (T.fad 54) (.ref c) A outer s H E) (WF E) false 9 := here_fn hr
  exact (ss_expr (se_meth (pe_bm PySem.F.plainAttrs_list PySem.F.slot_list_append PySem.F.type_list_append md_append pe_w pa_w) (chk_list rfl) (se_var (i := 6) rfl (by first | exact Or.inl rfl | exact Or.inr (Or.inl rfl) | exact Or.inr (Or.inr rfl))) (sa_cons (se_metF (k := 7) (s1 := topS 66) (Ng := ["_law_call"]) rfl rfl D__law_met M.xf rfl rfl M.f__law_met sc__law_met rfl (by first | exact Or.inl rfl | exact Or.inr (Or.inl rfl) | exact Or.inr (Or.inr rfl)) (fun _ => rfl) (met__law_met M) (metf__law_met M) TB rfl hmT huT (hr.mono (by decide)) (LamX.lamS_by (sc := defScope (topS 67)) (by decide +kernel)) rfl (fun _ _ _ _ _ => rfl) (fun _ _ _ _ _ _ _ hr => have he := here_lam hr; (se_fnCall (calX (C_product.mono (by decide))) he rfl M.f_product (sa_cons se_str (sa_cons se_str sa_nil))))) sa_nil)))
def n__law_right_8 : DS := (sExpr (dMeth isL mApp (dVar 6) (dCons (dMet isub xfs l__law_met fine__law_met 1 (dFn c_product_of (dCons (dVar 2) (dCons (dVar 4) dNil)))) dNil)))
theorem b__law_right_8 (M : MG T mg) (C__law_pick : CalG T P w mg base false 2 52 c__law_pick) (C_bits_of : CalG T P w mg base false 3 28 c_bits_of) (C_do_commute : CalG T P w mg base false 4 27 c_do_commute) (C_times : CalG T P w mg base false 4 30 c_times) (C_product : CalG T P w mg base false 4 32 c_product) (C_quarter : CalG T P w mg base false 5 36 c_quarter) (C_led_or_unlike : CalG T P w mg base false 7 47 c_led_or_unlike) (C_product_of : CalG T P w mg base false 5 34 c_product_of) (C_is_led_or_unlike : CalG T P w mg base false 6 49 c_is_led_or_unlike) (C_is_operator : CalG T P w mg base false 1 16 c_is_operator) (D__law_met : DefAt T "_law_met" "_law_met" (topS 66) 53 ["_law_call"]) {c Pt : Addr} (TB : LamX.TabB base mg c Pt) (hmT : (Pt, lamQ (envOfC "_law_right" (defScope (topS 67)) 0 0 (.ref c))) ∈ T.tbs) (huT : ∀ q ∈ T.tbs, q.1 = Pt → q.2 = lamQ (envOfC "_law_right" (defScope (topS 67)) 0 0 (.ref c)))  (A : Around) (outer : List Env) (s : Shared) (H : Hp) (E : XK) (hr : Room 9 (A.deeper (envOfC "_law_right" (defScope (topS 67)) s.heap.objs.size (T.fad 54) (.ref c)))) :
    SS T (cxOf (L2.CX P w) P w T.K mg base ["_law_dice_here", "_law_none", "_law_row", "_law_picks", "_law_indices", "_law_good", "_law_met_here", "_law_due", "_law_call", "_law_value", "_law_word"] "_law_right" (defScope (topS 67)) (T.fad 54) (.ref c) A outer s H E) (WF E) ((defBody (topS 67)).getD 8 (.Pass ⟨0, 0, 0, 0⟩)) n__law_right_8 := by
  have nd := sc__law_right.nd
  have he : Here (cxOf (L2.CX P w) P w T.K mg base ["_law_dice_here", "_law_none", "_law_row", "_law_picks", "_law_indices", "_law_good", "_law_met_here", "_law_due", "_law_call", "_law_value", "_law_word"] "_law_right" (defScope (topS 67)) (T.fad 54) (.ref c) A outer s H E) (WF E) false 9 := here_fn hr
  exact (ss_expr (se_meth (pe_bm PySem.F.plainAttrs_list PySem.F.slot_list_append PySem.F.type_list_append md_append pe_w pa_w) (chk_list rfl) (se_var (i := 6) rfl (by first | exact Or.inl rfl | exact Or.inr (Or.inl rfl) | exact Or.inr (Or.inr rfl))) (sa_cons (se_metF (k := 7) (s1 := topS 66) (Ng := ["_law_call"]) rfl rfl D__law_met M.xf rfl rfl M.f__law_met sc__law_met rfl (by first | exact Or.inl rfl | exact Or.inr (Or.inl rfl) | exact Or.inr (Or.inr rfl)) (fun _ => rfl) (met__law_met M) (metf__law_met M) TB rfl hmT huT (hr.mono (by decide)) (LamX.lamS_by (sc := defScope (topS 67)) (by decide +kernel)) rfl (fun _ _ _ _ _ => rfl) (fun _ _ _ _ _ _ _ hr => have he := here_lam hr; (se_fnCall (calX (C_product_of.mono (by decide))) he rfl M.f_product_of (sa_cons (se_var (i := 2) rfl (by first | exact Or.inl rfl | exact Or.inr (Or.inl rfl) | exact Or.inr (Or.inr rfl))) (sa_cons (se_var (i := 4) rfl (by first | exact Or.inl rfl | exact Or.inr (Or.inl rfl) | exact Or.inr (Or.inr rfl))) sa_nil))))) sa_nil)))
def n__law_right_9 : DS := (sExpr (dMeth isL mApp (dVar 6) (dCons (dMet isub xfs l__law_met fine__law_met 1 (dFn c_product_of (dCons (dVar 5) (dCons (dVar 4) dNil)))) dNil)))
theorem b__law_right_9 (M : MG T mg) (C__law_pick : CalG T P w mg base false 2 52 c__law_pick) (C_bits_of : CalG T P w mg base false 3 28 c_bits_of) (C_do_commute : CalG T P w mg base false 4 27 c_do_commute) (C_times : CalG T P w mg base false 4 30 c_times) (C_product : CalG T P w mg base false 4 32 c_product) (C_quarter : CalG T P w mg base false 5 36 c_quarter) (C_led_or_unlike : CalG T P w mg base false 7 47 c_led_or_unlike) (C_product_of : CalG T P w mg base false 5 34 c_product_of) (C_is_led_or_unlike : CalG T P w mg base false 6 49 c_is_led_or_unlike) (C_is_operator : CalG T P w mg base false 1 16 c_is_operator) (D__law_met : DefAt T "_law_met" "_law_met" (topS 66) 53 ["_law_call"]) {c Pt : Addr} (TB : LamX.TabB base mg c Pt) (hmT : (Pt, lamQ (envOfC "_law_right" (defScope (topS 67)) 0 0 (.ref c))) ∈ T.tbs) (huT : ∀ q ∈ T.tbs, q.1 = Pt → q.2 = lamQ (envOfC "_law_right" (defScope (topS 67)) 0 0 (.ref c)))  (A : Around) (outer : List Env) (s : Shared) (H : Hp) (E : XK) (hr : Room 9 (A.deeper (envOfC "_law_right" (defScope (topS 67)) s.heap.objs.size (T.fad 54) (.ref c)))) :
    SS T (cxOf (L2.CX P w) P w T.K mg base ["_law_dice_here", "_law_none", "_law_row", "_law_picks", "_law_indices", "_law_good", "_law_met_here", "_law_due", "_law_call", "_law_value", "_law_word"] "_law_right" (defScope (topS 67)) (T.fad 54) (.ref c) A outer s H E) (WF E) ((defBody (topS 67)).getD 9 (.Pass ⟨0, 0, 0, 0⟩)) n__law_right_9 := by
  have nd := sc__law_right.nd
  have he : Here (cxOf (L2.CX P w) P w T.K mg base ["_law_dice_here", "_law_none", "_law_row", "_law_picks", "_law_indices", "_law_good", "_law_met_here", "_law_due", "_law_call", "_law_value", "_law_word"] "_law_right" (defScope (topS 67)) (T.fad 54) (.ref c) A outer s H E) (WF E) false 9 := here_fn hr
  exact (ss_expr (se_meth (pe_bm PySem.F.plainAttrs_list PySem.F.slot_list_append PySem.F.type_list_append md_append pe_w pa_w) (chk_list rfl) (se_var (i := 6) rfl (by first | exact Or.inl rfl | exact Or.inr (Or.inl rfl) | exact Or.inr (Or.inr rfl))) (sa_cons (se_metF (k := 7) (s1 := topS 66) (Ng := ["_law_call"]) rfl rfl D__law_met M.xf rfl rfl M.f__law_met sc__law_met rfl (by first | exact Or.inl rfl | exact Or.inr (Or.inl rfl) | exact Or.inr (Or.inr rfl)) (fun _ => rfl) (met__law_met M) (metf__law_met M) TB rfl hmT huT (hr.mono (by decide)) (LamX.lamS_by (sc := defScope (topS 67)) (by decide +kernel)) rfl (fun _ _ _ _ _ => rfl) (fun _ _ _ _ _ _ _ hr => have he := here_lam hr; (se_fnCall (calX (C_product_of.mono (by decide))) he rfl M.f_product_of (sa_cons (se_var (i := 5) rfl (by first | exact Or.inl rfl | exact Or.inr (Or.inl rfl) | exact Or.inr (Or.inr rfl))) (sa_cons (se_var (i := 4) rfl (by first | exact Or.inl rfl | exact Or.inr (Or.inl rfl) | exact Or.inr (Or.inr rfl))) sa_nil))))) sa_nil)))
def n__law_right_10 : DS := (sExpr (dMeth isL mApp (dVar 6) (dCons (dMet isub xfs l__law_met fine__law_met 1 (dFn c_product_of (dCons (dVar 5) (dCons (dTup (dCons (dC (.int 0)) (dCons (dC (.int 1)) dNil))) dNil)))) dNil)))
theorem b__law_right_10 (M : MG T mg) (C__law_pick : CalG T P w mg base false 2 52 c__law_pick) (C_bits_of : CalG T P w mg base false 3 28 c_bits_of) (C_do_commute : CalG T P w mg base false 4 27 c_do_commute) (C_times : CalG T P w mg base false 4 30 c_times) (C_product : CalG T P w mg base false 4 32 c_product) (C_quarter : CalG T P w mg base false 5 36 c_quarter) (C_led_or_unlike : CalG T P w mg base false 7 47 c_led_or_unlike) (C_product_of : CalG T P w mg base false 5 34 c_product_of) (C_is_led_or_unlike : CalG T P w mg base false 6 49 c_is_led_or_unlike) (C_is_operator : CalG T P w mg base false 1 16 c_is_operator) (D__law_met : DefAt T "_law_met" "_law_met" (topS 66) 53 ["_law_call"]) {c Pt : Addr} (TB : LamX.TabB base mg c Pt) (hmT : (Pt, lamQ (envOfC "_law_right" (defScope (topS 67)) 0 0 (.ref c))) ∈ T.tbs) (huT : ∀ q ∈ T.tbs, q.1 = Pt → q.2 = lamQ (envOfC "_law_right" (defScope (topS 67)) 0 0 (.ref c)))  (A : Around) (outer : List Env) (s : Shared) (H : Hp) (E : XK) (hr : Room 9 (A.deeper (envOfC "_law_right" (defScope (topS 67)) s.heap.objs.size (T.fad 54) (.ref c)))) :
    SS T (cxOf (L2.CX P w) P w T.K mg base ["_law_dice_here", "_law_none", "_law_row", "_law_picks", "_law_indices", "_law_good", "_law_met_here", "_law_due", "_law_call", "_law_value", "_law_word"] "_law_right" (defScope (topS 67)) (T.fad 54) (.ref c) A outer s H E) (WF E) ((defBody (topS 67)).getD 10 (.Pass ⟨0, 0, 0, 0⟩)) n__law_right_10 := by
  have nd := sc__law_right.nd
  have he : Here (cxOf (L2.CX P w) P w T.K mg base ["_law_dice_here", "_law_none", "_law_row", "_law_picks", "_law_indices", "_law_good", "_law_met_here", "_law_due", "_law_call", "_law_value", "_law_word"] "_law_right" (defScope (topS 67)) (T.fad 54) (.ref c) A outer s H E) (WF E) false 9 := here_fn hr
  exact (ss_expr (se_meth (pe_bm PySem.F.plainAttrs_list PySem.F.slot_list_append PySem.F.type_list_append md_append pe_w pa_w) (chk_list rfl) (se_var (i := 6) rfl (by first | exact Or.inl rfl | exact Or.inr (Or.inl rfl) | exact Or.inr (Or.inr rfl))) (sa_cons (se_metF (k := 7) (s1 := topS 66) (Ng := ["_law_call"]) rfl rfl D__law_met M.xf rfl rfl M.f__law_met sc__law_met rfl (by first | exact Or.inl rfl | exact Or.inr (Or.inl rfl) | exact Or.inr (Or.inr rfl)) (fun _ => rfl) (met__law_met M) (metf__law_met M) TB rfl hmT huT (hr.mono (by decide)) (LamX.lamS_by (sc := defScope (topS 67)) (by decide +kernel)) rfl (fun _ _ _ _ _ => rfl) (fun _ _ _ _ _ _ _ hr => have he := here_lam hr; (se_fnCall (calX (C_product_of.mono (by decide))) he rfl M.f_product_of (sa_cons (se_var (i := 5) rfl (by first | exact Or.inl rfl | exact Or.inr (Or.inl rfl) | exact Or.inr (Or.inr rfl))) (sa_cons (se_tup (sa_cons se_int (sa_cons se_int sa_nil))) sa_nil))))) sa_nil)))
def n__law_right_11 : DS := (sAsg (dOp oAdd (dVar 7) (dLst (dCons (dC (.str "operation")) (dCons (dC (.str "operation")) (dCons (dC (.str "operator")) (dCons (dC (.str "operation")) (dCons (dC (.str "fine")) dNil))))))) (gNm 7))
theorem b__law_right_11 (M : MG T mg) (C__law_pick : CalG T P w mg base false 2 52 c__law_pick) (C_bits_of : CalG T P w mg base false 3 28 c_bits_of) (C_do_commute : CalG T P w mg base false 4 27 c_do_commute) (C_times : CalG T P w mg base false 4 30 c_times) (C_product : CalG T P w mg base false 4 32 c_product) (C_quarter : CalG T P w mg base false 5 36 c_quarter) (C_led_or_unlike : CalG T P w mg base false 7 47 c_led_or_unlike) (C_product_of : CalG T P w mg base false 5 34 c_product_of) (C_is_led_or_unlike : CalG T P w mg base false 6 49 c_is_led_or_unlike) (C_is_operator : CalG T P w mg base false 1 16 c_is_operator) (D__law_met : DefAt T "_law_met" "_law_met" (topS 66) 53 ["_law_call"]) {c Pt : Addr} (TB : LamX.TabB base mg c Pt) (hmT : (Pt, lamQ (envOfC "_law_right" (defScope (topS 67)) 0 0 (.ref c))) ∈ T.tbs) (huT : ∀ q ∈ T.tbs, q.1 = Pt → q.2 = lamQ (envOfC "_law_right" (defScope (topS 67)) 0 0 (.ref c)))  (A : Around) (outer : List Env) (s : Shared) (H : Hp) (E : XK) (hr : Room 9 (A.deeper (envOfC "_law_right" (defScope (topS 67)) s.heap.objs.size (T.fad 54) (.ref c)))) :
    SS T (cxOf (L2.CX P w) P w T.K mg base ["_law_dice_here", "_law_none", "_law_row", "_law_picks", "_law_indices", "_law_good", "_law_met_here", "_law_due", "_law_call", "_law_value", "_law_word"] "_law_right" (defScope (topS 67)) (T.fad 54) (.ref c) A outer s H E) (WF E) ((defBody (topS 67)).getD 11 (.Pass ⟨0, 0, 0, 0⟩)) n__law_right_11 := by
  have nd := sc__law_right.nd
  have he : Here (cxOf (L2.CX P w) P w T.K mg base ["_law_dice_here", "_law_none", "_law_row", "_law_picks", "_law_indices", "_law_good", "_law_met_here", "_law_due", "_law_call", "_law_value", "_law_word"] "_law_right" (defScope (topS 67)) (T.fad 54) (.ref c) A outer s H E) (WF E) false 9 := here_fn hr
  exact (ss_asg (se_op (od_add rfl) (se_var (i := 7) rfl (by first | exact Or.inl rfl | exact Or.inr (Or.inl rfl) | exact Or.inr (Or.inr rfl))) (se_lst (sa_cons se_str (sa_cons se_str (sa_cons se_str (sa_cons se_str (sa_cons se_str sa_nil))))))) (sg_name (i := 7) nd rfl (by first | exact Or.inl rfl | exact Or.inr rfl) (by first | exact Or.inl rfl | exact Or.inr rfl)))
def n__law_right_12 : DS := (sFor (jSeqA (dTup (dCons (dC (.fn 47)) (dCons (dC (.lam 0)) dNil)))) (gNm 8) (sSeq (sExpr (dMeth isL mApp (dVar 6) (dCons (dMet isub xfs l__law_met fine__law_met 1 (dFnW ok__law_right call__law_right okl__law_right (fun n => runL (npl__law_right n) (dbl__law_right n)) (dVar 8) (dCons (dVar 2) (dCons (dVar 2) dNil)))) dNil))) (sSeq (sExpr (dMeth isL mApp (dVar 6) (dCons (dMet isub xfs l__law_met fine__law_met 1 (dFnW ok__law_right call__law_right okl__law_right (fun n => runL (npl__law_right n) (dbl__law_right n)) (dVar 8) (dCons (dVar 5) (dCons (dVar 2) dNil)))) dNil))) (sSeq (sExpr (dMeth isL mApp (dVar 6) (dCons (dMet isub xfs l__law_met fine__law_met 1 (dFnW ok__law_right call__law_right okl__law_right (fun n => runL (npl__law_right n) (dbl__law_right n)) (dVar 8) (dCons (dVar 5) (dCons (dTup (dCons (dC (.str "+X")) (dCons (dC (.str "+Z")) dNil))) dNil)))) dNil))) (sSeq (sExpr (dMeth isL mApp (dVar 6) (dCons (dMet isub xfs l__law_met fine__law_met 1 (dFnW ok__law_right call__law_right okl__law_right (fun n => runL (npl__law_right n) (dbl__law_right n)) (dVar 8) (dCons (dVar 5) (dCons (dSlA (dVar 5) dNo (dSo (dC (.int 1)))) dNil)))) dNil))) (sSeq (sExpr (dMeth isL mApp (dVar 6) (dCons (dMet isub xfs l__law_met fine__law_met 1 (dFnW ok__law_right call__law_right okl__law_right (fun n => runL (npl__law_right n) (dbl__law_right n)) (dVar 8) (dCons (dVar 5) (dCons (dVar 5) dNil)))) dNil))) (sSeq (sAsg (dOp oAdd (dVar 7) (dLst (dCons (dC (.str "operator")) (dCons (dC (.str "operator")) (dCons (dC (.str "operation")) (dCons (dC (.str "operation")) (dCons (dC (.str "fine")) dNil))))))) (gNm 7)) sPass)))))))
theorem b__law_right_12 (M : MG T mg) (C__law_pick : CalG T P w mg base false 2 52 c__law_pick) (C_bits_of : CalG T P w mg base false 3 28 c_bits_of) (C_do_commute : CalG T P w mg base false 4 27 c_do_commute) (C_times : CalG T P w mg base false 4 30 c_times) (C_product : CalG T P w mg base false 4 32 c_product) (C_quarter : CalG T P w mg base false 5 36 c_quarter) (C_led_or_unlike : CalG T P w mg base false 7 47 c_led_or_unlike) (C_product_of : CalG T P w mg base false 5 34 c_product_of) (C_is_led_or_unlike : CalG T P w mg base false 6 49 c_is_led_or_unlike) (C_is_operator : CalG T P w mg base false 1 16 c_is_operator) (D__law_met : DefAt T "_law_met" "_law_met" (topS 66) 53 ["_law_call"]) {c Pt : Addr} (TB : LamX.TabB base mg c Pt) (hmT : (Pt, lamQ (envOfC "_law_right" (defScope (topS 67)) 0 0 (.ref c))) ∈ T.tbs) (huT : ∀ q ∈ T.tbs, q.1 = Pt → q.2 = lamQ (envOfC "_law_right" (defScope (topS 67)) 0 0 (.ref c)))  (A : Around) (outer : List Env) (s : Shared) (H : Hp) (E : XK) (hr : Room 9 (A.deeper (envOfC "_law_right" (defScope (topS 67)) s.heap.objs.size (T.fad 54) (.ref c)))) :
    SS T (cxOf (L2.CX P w) P w T.K mg base ["_law_dice_here", "_law_none", "_law_row", "_law_picks", "_law_indices", "_law_good", "_law_met_here", "_law_due", "_law_call", "_law_value", "_law_word"] "_law_right" (defScope (topS 67)) (T.fad 54) (.ref c) A outer s H E) (WF E) ((defBody (topS 67)).getD 12 (.Pass ⟨0, 0, 0, 0⟩)) n__law_right_12 := by
  have cv : ∀ n, ok__law_right n = true → CalG T P w mg base false 7 n (call__law_right n) := fun n hn => by
    unfold ok__law_right at hn
    simp only [Bool.or_eq_true, beq_iff_eq] at hn
    rcases hn with ((((rfl | rfl) | rfl) | rfl) | rfl)
    · exact C_do_commute.mono (by decide)
    · exact C_times.mono (by decide)
    · exact C_product.mono (by decide)
    · exact C_quarter.mono (by decide)
    · exact C_led_or_unlike.mono (by decide)
  have cl : ∀ n, okl__law_right n = true → LamG T P w mg base 7 n (npl__law_right n) (dbl__law_right n) := fun n hn => by
    unfold okl__law_right at hn
    simp only [Bool.or_eq_true, beq_iff_eq] at hn
    rcases hn with rfl
    · exact (kl_0 M C_is_led_or_unlike).mono (by decide)
  have nd := sc__law_right.nd
  have he : Here (cxOf (L2.CX P w) P w T.K mg base ["_law_dice_here", "_law_none", "_law_row", "_law_picks", "_law_indices", "_law_good", "_law_met_here", "_law_due", "_law_call", "_law_value", "_law_word"] "_law_right" (defScope (topS 67)) (T.fad 54) (.ref c) A outer s H E) (WF E) false 9 := here_fn hr
  exact (ss_for pas_fn rfl (sj_seqA rfl (se_tup (sa_cons (se_fn rfl M.f_led_or_unlike) (sa_cons (se_lamV (lm_at M.lm (lm_0 M)) TB rfl hmT huT rfl (by decide +kernel) rfl) sa_nil)))) (sg_name (i := 8) nd rfl (by first | exact Or.inl rfl | exact Or.inr rfl) (by first | exact Or.inl rfl | exact Or.inr rfl)) ((sss_cons (ss_expr (se_meth (pe_bm PySem.F.plainAttrs_list PySem.F.slot_list_append PySem.F.type_list_append md_append pe_w pa_w) (chk_list rfl) (se_var (i := 6) rfl (by first | exact Or.inl rfl | exact Or.inr (Or.inl rfl) | exact Or.inr (Or.inr rfl))) (sa_cons (se_metF (k := 7) (s1 := topS 66) (Ng := ["_law_call"]) rfl rfl D__law_met M.xf rfl rfl M.f__law_met sc__law_met rfl (by first | exact Or.inl rfl | exact Or.inr (Or.inl rfl) | exact Or.inr (Or.inr rfl)) (fun _ => rfl) (met__law_met M) (metf__law_met M) TB rfl hmT huT (hr.mono (by decide)) (LamX.lamS_by (sc := defScope (topS 67)) (by decide +kernel)) rfl (fun _ _ _ _ _ => rfl) (fun _ _ _ _ _ _ _ hr => have he := here_lam hr; (se_fnWal (fun n hn => calX ((cv n hn).mono (by decide))) rfl (fun n hn => (cl n hn).mono (by decide)) he (se_var (i := 8) rfl (by first | exact Or.inl rfl | exact Or.inr (Or.inl rfl) | exact Or.inr (Or.inr rfl))) (sa_cons (se_var (i := 2) rfl (by first | exact Or.inl rfl | exact Or.inr (Or.inl rfl) | exact Or.inr (Or.inr rfl))) (sa_cons (se_var (i := 2) rfl (by first | exact Or.inl rfl | exact Or.inr (Or.inl rfl) | exact Or.inr (Or.inr rfl))) sa_nil))))) sa_nil)))
    (sss_cons (ss_expr (se_meth (pe_bm PySem.F.plainAttrs_list PySem.F.slot_list_append PySem.F.type_list_append md_append pe_w pa_w) (chk_list rfl) (se_var (i := 6) rfl (by first | exact Or.inl rfl | exact Or.inr (Or.inl rfl) | exact Or.inr (Or.inr rfl))) (sa_cons (se_metF (k := 7) (s1 := topS 66) (Ng := ["_law_call"]) rfl rfl D__law_met M.xf rfl rfl M.f__law_met sc__law_met rfl (by first | exact Or.inl rfl | exact Or.inr (Or.inl rfl) | exact Or.inr (Or.inr rfl)) (fun _ => rfl) (met__law_met M) (metf__law_met M) TB rfl hmT huT (hr.mono (by decide)) (LamX.lamS_by (sc := defScope (topS 67)) (by decide +kernel)) rfl (fun _ _ _ _ _ => rfl) (fun _ _ _ _ _ _ _ hr => have he := here_lam hr; (se_fnWal (fun n hn => calX ((cv n hn).mono (by decide))) rfl (fun n hn => (cl n hn).mono (by decide)) he (se_var (i := 8) rfl (by first | exact Or.inl rfl | exact Or.inr (Or.inl rfl) | exact Or.inr (Or.inr rfl))) (sa_cons (se_var (i := 5) rfl (by first | exact Or.inl rfl | exact Or.inr (Or.inl rfl) | exact Or.inr (Or.inr rfl))) (sa_cons (se_var (i := 2) rfl (by first | exact Or.inl rfl | exact Or.inr (Or.inl rfl) | exact Or.inr (Or.inr rfl))) sa_nil))))) sa_nil)))
    (sss_cons (ss_expr (se_meth (pe_bm PySem.F.plainAttrs_list PySem.F.slot_list_append PySem.F.type_list_append md_append pe_w pa_w) (chk_list rfl) (se_var (i := 6) rfl (by first | exact Or.inl rfl | exact Or.inr (Or.inl rfl) | exact Or.inr (Or.inr rfl))) (sa_cons (se_metF (k := 7) (s1 := topS 66) (Ng := ["_law_call"]) rfl rfl D__law_met M.xf rfl rfl M.f__law_met sc__law_met rfl (by first | exact Or.inl rfl | exact Or.inr (Or.inl rfl) | exact Or.inr (Or.inr rfl)) (fun _ => rfl) (met__law_met M) (metf__law_met M) TB rfl hmT huT (hr.mono (by decide)) (LamX.lamS_by (sc := defScope (topS 67)) (by decide +kernel)) rfl (fun _ _ _ _ _ => rfl) (fun _ _ _ _ _ _ _ hr => have he := here_lam hr; (se_fnWal (fun n hn => calX ((cv n hn).mono (by decide))) rfl (fun n hn => (cl n hn).mono (by decide)) he (se_var (i := 8) rfl (by first | exact Or.inl rfl | exact Or.inr (Or.inl rfl) | exact Or.inr (Or.inr rfl))) (sa_cons (se_var (i := 5) rfl (by first | exact Or.inl rfl | exact Or.inr (Or.inl rfl) | exact Or.inr (Or.inr rfl))) (sa_cons (se_tup (sa_cons se_str (sa_cons se_str sa_nil))) sa_nil))))) sa_nil)))
    (sss_cons (ss_expr (se_meth (pe_bm PySem.F.plainAttrs_list PySem.F.slot_list_append PySem.F.type_list_append md_append pe_w pa_w) (chk_list rfl) (se_var (i := 6) rfl (by first | exact Or.inl rfl | exact Or.inr (Or.inl rfl) | exact Or.inr (Or.inr rfl))) (sa_cons (se_metF (k := 7) (s1 := topS 66) (Ng := ["_law_call"]) rfl rfl D__law_met M.xf rfl rfl M.f__law_met sc__law_met rfl (by first | exact Or.inl rfl | exact Or.inr (Or.inl rfl) | exact Or.inr (Or.inr rfl)) (fun _ => rfl) (met__law_met M) (metf__law_met M) TB rfl hmT huT (hr.mono (by decide)) (LamX.lamS_by (sc := defScope (topS 67)) (by decide +kernel)) rfl (fun _ _ _ _ _ => rfl) (fun _ _ _ _ _ _ _ hr => have he := here_lam hr; (se_fnWal (fun n hn => calX ((cv n hn).mono (by decide))) rfl (fun n hn => (cl n hn).mono (by decide)) he (se_var (i := 8) rfl (by first | exact Or.inl rfl | exact Or.inr (Or.inl rfl) | exact Or.inr (Or.inr rfl))) (sa_cons (se_var (i := 5) rfl (by first | exact Or.inl rfl | exact Or.inr (Or.inl rfl) | exact Or.inr (Or.inr rfl))) (sa_cons (se_slA rfl (se_var (i := 5) rfl (by first | exact Or.inl rfl | exact Or.inr (Or.inl rfl) | exact Or.inr (Or.inr rfl))) so_none (so_some se_int)) sa_nil))))) sa_nil)))
    (sss_cons (ss_expr (se_meth (pe_bm PySem.F.plainAttrs_list PySem.F.slot_list_append PySem.F.type_list_append md_append pe_w pa_w) (chk_list rfl) (se_var (i := 6) rfl (by first | exact Or.inl rfl | exact Or.inr (Or.inl rfl) | exact Or.inr (Or.inr rfl))) (sa_cons (se_metF (k := 7) (s1 := topS 66) (Ng := ["_law_call"]) rfl rfl D__law_met M.xf rfl rfl M.f__law_met sc__law_met rfl (by first | exact Or.inl rfl | exact Or.inr (Or.inl rfl) | exact Or.inr (Or.inr rfl)) (fun _ => rfl) (met__law_met M) (metf__law_met M) TB rfl hmT huT (hr.mono (by decide)) (LamX.lamS_by (sc := defScope (topS 67)) (by decide +kernel)) rfl (fun _ _ _ _ _ => rfl) (fun _ _ _ _ _ _ _ hr => have he := here_lam hr; (se_fnWal (fun n hn => calX ((cv n hn).mono (by decide))) rfl (fun n hn => (cl n hn).mono (by decide)) he (se_var (i := 8) rfl (by first | exact Or.inl rfl | exact Or.inr (Or.inl rfl) | exact Or.inr (Or.inr rfl))) (sa_cons (se_var (i := 5) rfl (by first | exact Or.inl rfl | exact Or.inr (Or.inl rfl) | exact Or.inr (Or.inr rfl))) (sa_cons (se_var (i := 5) rfl (by first | exact Or.inl rfl | exact Or.inr (Or.inl rfl) | exact Or.inr (Or.inr rfl))) sa_nil))))) sa_nil)))
    (sss_cons (ss_asg (se_op (od_add rfl) (se_var (i := 7) rfl (by first | exact Or.inl rfl | exact Or.inr (Or.inl rfl) | exact Or.inr (Or.inr rfl))) (se_lst (sa_cons se_str (sa_cons se_str (sa_cons se_str (sa_cons se_str (sa_cons se_str sa_nil))))))) (sg_name (i := 7) nd rfl (by first | exact Or.inl rfl | exact Or.inr rfl) (by first | exact Or.inl rfl | exact Or.inr rfl)))
    sss_nil))))))))
def n__law_right_13 : DS := (sAsg (dFn c__law_pick (dCons (dVar 0) (dCons (dLst (dCons (dC .non) (dCons (dC (.int 0)) (dCons (dTup dNil) (dCons (dC (.str "led")) (dCons (dTup (dCons (dC (.str "led")) dNil)) (dCons (dTup (dCons (dC (.str "led")) (dCons (dC (.int 5)) dNil))) (dCons (dTup (dCons (dC (.str "led")) (dCons (dTup (dCons (dVar 1) dNil)) dNil))) (dCons (dTup (dCons (dC (.str "pair")) (dCons (dC (.int 0)) dNil))) (dCons (dTup (dCons (dC (.str "pair")) (dCons (dC .non) (dCons (dC (.int 1)) dNil)))) (dCons (dTup (dCons (dC (.str "lot")) (dCons (dC (.int 0)) dNil))) (dCons dDct0 (dCons (dTup (dCons (dC (.str "led")) (dCons (dTup (dCons (dC (.str "+X")) dNil)) dNil))) dNil))))))))))))) dNil))) (gNm 9))
theorem b__law_right_13 (M : MG T mg) (C__law_pick : CalG T P w mg base false 2 52 c__law_pick) (C_bits_of : CalG T P w mg base false 3 28 c_bits_of) (C_do_commute : CalG T P w mg base false 4 27 c_do_commute) (C_times : CalG T P w mg base false 4 30 c_times) (C_product : CalG T P w mg base false 4 32 c_product) (C_quarter : CalG T P w mg base false 5 36 c_quarter) (C_led_or_unlike : CalG T P w mg base false 7 47 c_led_or_unlike) (C_product_of : CalG T P w mg base false 5 34 c_product_of) (C_is_led_or_unlike : CalG T P w mg base false 6 49 c_is_led_or_unlike) (C_is_operator : CalG T P w mg base false 1 16 c_is_operator) (D__law_met : DefAt T "_law_met" "_law_met" (topS 66) 53 ["_law_call"]) {c Pt : Addr} (TB : LamX.TabB base mg c Pt) (hmT : (Pt, lamQ (envOfC "_law_right" (defScope (topS 67)) 0 0 (.ref c))) ∈ T.tbs) (huT : ∀ q ∈ T.tbs, q.1 = Pt → q.2 = lamQ (envOfC "_law_right" (defScope (topS 67)) 0 0 (.ref c)))  (A : Around) (outer : List Env) (s : Shared) (H : Hp) (E : XK) (hr : Room 9 (A.deeper (envOfC "_law_right" (defScope (topS 67)) s.heap.objs.size (T.fad 54) (.ref c)))) :
    SS T (cxOf (L2.CX P w) P w T.K mg base ["_law_dice_here", "_law_none", "_law_row", "_law_picks", "_law_indices", "_law_good", "_law_met_here", "_law_due", "_law_call", "_law_value", "_law_word"] "_law_right" (defScope (topS 67)) (T.fad 54) (.ref c) A outer s H E) (WF E) ((defBody (topS 67)).getD 13 (.Pass ⟨0, 0, 0, 0⟩)) n__law_right_13 := by
  have nd := sc__law_right.nd
  have he : Here (cxOf (L2.CX P w) P w T.K mg base ["_law_dice_here", "_law_none", "_law_row", "_law_picks", "_law_indices", "_law_good", "_law_met_here", "_law_due", "_law_call", "_law_value", "_law_word"] "_law_right" (defScope (topS 67)) (T.fad 54) (.ref c) A outer s H E) (WF E) false 9 := here_fn hr
  exact (ss_asg (se_fnCall (calX (C__law_pick.mono (by decide))) he rfl M.f__law_pick (sa_cons (se_var (i := 0) rfl (by first | exact Or.inl rfl | exact Or.inr (Or.inl rfl) | exact Or.inr (Or.inr rfl))) (sa_cons (se_lst (sa_cons se_non (sa_cons se_int (sa_cons (se_tup sa_nil) (sa_cons se_str (sa_cons (se_tup (sa_cons se_str sa_nil)) (sa_cons (se_tup (sa_cons se_str (sa_cons se_int sa_nil))) (sa_cons (se_tup (sa_cons se_str (sa_cons (se_tup (sa_cons (se_var (i := 1) rfl (by first | exact Or.inl rfl | exact Or.inr (Or.inl rfl) | exact Or.inr (Or.inr rfl))) sa_nil)) sa_nil))) (sa_cons (se_tup (sa_cons se_str (sa_cons se_int sa_nil))) (sa_cons (se_tup (sa_cons se_str (sa_cons se_non (sa_cons se_int sa_nil)))) (sa_cons (se_tup (sa_cons se_str (sa_cons se_int sa_nil))) (sa_cons se_dct0 (sa_cons (se_tup (sa_cons se_str (sa_cons (se_tup (sa_cons se_str sa_nil)) sa_nil))) sa_nil))))))))))))) sa_nil))) (sg_name (i := 9) nd rfl (by first | exact Or.inl rfl | exact Or.inr rfl) (by first | exact Or.inl rfl | exact Or.inr rfl)))
def n__law_right_14 : DS := (sIf (dOrT (dTru (dFn c_is_led_or_unlike (dCons (dVar 5) (dCons (dVar 5) (dCons (dVar 9) dNil))))) (dTru (dFn c_is_operator (dCons (dVar 1) dNil)))) (sSeq (sRet (dC (.bl false))) sPass) sPass)
theorem b__law_right_14 (M : MG T mg) (C__law_pick : CalG T P w mg base false 2 52 c__law_pick) (C_bits_of : CalG T P w mg base false 3 28 c_bits_of) (C_do_commute : CalG T P w mg base false 4 27 c_do_commute) (C_times : CalG T P w mg base false 4 30 c_times) (C_product : CalG T P w mg base false 4 32 c_product) (C_quarter : CalG T P w mg base false 5 36 c_quarter) (C_led_or_unlike : CalG T P w mg base false 7 47 c_led_or_unlike) (C_product_of : CalG T P w mg base false 5 34 c_product_of) (C_is_led_or_unlike : CalG T P w mg base false 6 49 c_is_led_or_unlike) (C_is_operator : CalG T P w mg base false 1 16 c_is_operator) (D__law_met : DefAt T "_law_met" "_law_met" (topS 66) 53 ["_law_call"]) {c Pt : Addr} (TB : LamX.TabB base mg c Pt) (hmT : (Pt, lamQ (envOfC "_law_right" (defScope (topS 67)) 0 0 (.ref c))) ∈ T.tbs) (huT : ∀ q ∈ T.tbs, q.1 = Pt → q.2 = lamQ (envOfC "_law_right" (defScope (topS 67)) 0 0 (.ref c)))  (A : Around) (outer : List Env) (s : Shared) (H : Hp) (E : XK) (hr : Room 9 (A.deeper (envOfC "_law_right" (defScope (topS 67)) s.heap.objs.size (T.fad 54) (.ref c)))) :
    SS T (cxOf (L2.CX P w) P w T.K mg base ["_law_dice_here", "_law_none", "_law_row", "_law_picks", "_law_indices", "_law_good", "_law_met_here", "_law_due", "_law_call", "_law_value", "_law_word"] "_law_right" (defScope (topS 67)) (T.fad 54) (.ref c) A outer s H E) (WF E) ((defBody (topS 67)).getD 14 (.Pass ⟨0, 0, 0, 0⟩)) n__law_right_14 := by
  have nd := sc__law_right.nd
  have he : Here (cxOf (L2.CX P w) P w T.K mg base ["_law_dice_here", "_law_none", "_law_row", "_law_picks", "_law_indices", "_law_good", "_law_met_here", "_law_due", "_law_call", "_law_value", "_law_word"] "_law_right" (defScope (topS 67)) (T.fad 54) (.ref c) A outer s H E) (WF E) false 9 := here_fn hr
  exact (ss_if (SW.st (sw_or (st_tru rfl (se_fnCall (calX (C_is_led_or_unlike.mono (by decide))) he rfl M.f_is_led_or_unlike (sa_cons (se_var (i := 5) rfl (by first | exact Or.inl rfl | exact Or.inr (Or.inl rfl) | exact Or.inr (Or.inr rfl))) (sa_cons (se_var (i := 5) rfl (by first | exact Or.inl rfl | exact Or.inr (Or.inl rfl) | exact Or.inr (Or.inr rfl))) (sa_cons (se_var (i := 9) rfl (by first | exact Or.inl rfl | exact Or.inr (Or.inl rfl) | exact Or.inr (Or.inr rfl))) sa_nil))))) (sw_or1 (st_tru rfl (se_fnCall (calX (C_is_operator.mono (by decide))) he rfl M.f_is_operator (sa_cons (se_var (i := 1) rfl (by first | exact Or.inl rfl | exact Or.inr (Or.inl rfl) | exact Or.inr (Or.inr rfl))) sa_nil)))))) ((sss_cons (ss_ret se_bl)
    sss_nil)) (sss_nil))
def n__law_right_15 : DS := (sRet (dOp oEq (dVar 6) (dLc [10] (jSeqA (dVar 7)) (gNm 10) dYes (dIf (dTest (dOp oEq (dVar 10) (dC (.str "fine")))) (dTup (dCons (dC (.str "fine")) dNil)) (dTup (dCons (dC (.str "refused")) (dCons (dVar 10) dNil)))))))
theorem b__law_right_15 (M : MG T mg) (C__law_pick : CalG T P w mg base false 2 52 c__law_pick) (C_bits_of : CalG T P w mg base false 3 28 c_bits_of) (C_do_commute : CalG T P w mg base false 4 27 c_do_commute) (C_times : CalG T P w mg base false 4 30 c_times) (C_product : CalG T P w mg base false 4 32 c_product) (C_quarter : CalG T P w mg base false 5 36 c_quarter) (C_led_or_unlike : CalG T P w mg base false 7 47 c_led_or_unlike) (C_product_of : CalG T P w mg base false 5 34 c_product_of) (C_is_led_or_unlike : CalG T P w mg base false 6 49 c_is_led_or_unlike) (C_is_operator : CalG T P w mg base false 1 16 c_is_operator) (D__law_met : DefAt T "_law_met" "_law_met" (topS 66) 53 ["_law_call"]) {c Pt : Addr} (TB : LamX.TabB base mg c Pt) (hmT : (Pt, lamQ (envOfC "_law_right" (defScope (topS 67)) 0 0 (.ref c))) ∈ T.tbs) (huT : ∀ q ∈ T.tbs, q.1 = Pt → q.2 = lamQ (envOfC "_law_right" (defScope (topS 67)) 0 0 (.ref c)))  (A : Around) (outer : List Env) (s : Shared) (H : Hp) (E : XK) (hr : Room 9 (A.deeper (envOfC "_law_right" (defScope (topS 67)) s.heap.objs.size (T.fad 54) (.ref c)))) :
    SS T (cxOf (L2.CX P w) P w T.K mg base ["_law_dice_here", "_law_none", "_law_row", "_law_picks", "_law_indices", "_law_good", "_law_met_here", "_law_due", "_law_call", "_law_value", "_law_word"] "_law_right" (defScope (topS 67)) (T.fad 54) (.ref c) A outer s H E) (WF E) ((defBody (topS 67)).getD 15 (.Pass ⟨0, 0, 0, 0⟩)) n__law_right_15 := by
  have nd := sc__law_right.nd
  have he : Here (cxOf (L2.CX P w) P w T.K mg base ["_law_dice_here", "_law_none", "_law_row", "_law_picks", "_law_indices", "_law_good", "_law_met_here", "_law_due", "_law_call", "_law_value", "_law_word"] "_law_right" (defScope (topS 67)) (T.fad 54) (.ref c) A outer s H E) (WF E) false 9 := here_fn hr
  exact (ss_ret (se_cmp (od_eq rfl hr.units) (se_var (i := 6) rfl (by first | exact Or.inl rfl | exact Or.inr (Or.inl rfl) | exact Or.inr (Or.inr rfl))) (se_lc (own := [("_law_word", 10)]) rfl nd (sj_seqA rfl (se_var (i := 7) rfl (by first | exact Or.inl rfl | exact Or.inr (Or.inl rfl) | exact Or.inr (Or.inr rfl)))) (blkOk_by (N := ["_law_dice_here", "_law_none", "_law_row", "_law_picks", "_law_indices", "_law_good", "_law_met_here", "_law_due", "_law_call", "_law_value", "_law_word"]) (sc := defScope (topS 67)) (by decide +kernel)) (by decide) (fun _ _ _ _ _ => (sg_name (i := 10) nd rfl (by first | exact Or.inl rfl | exact Or.inr rfl) (by first | exact Or.inl rfl | exact Or.inr rfl))) (fun _ _ _ _ _ => spt_nil) (fun _ _ _ _ _ => (se_if (st_cmp (od_eq rfl hr.units) (se_var (i := 10) rfl (by first | exact Or.inl rfl | exact Or.inr (Or.inl rfl) | exact Or.inr (Or.inr rfl))) se_str (nomark _)) (se_tup (sa_cons se_str sa_nil)) (se_tup (sa_cons se_str (sa_cons (se_var (i := 10) rfl (by first | exact Or.inl rfl | exact Or.inr (Or.inl rfl) | exact Or.inr (Or.inr rfl))) sa_nil)))))) (nomark _)))
def n__law_right : DS := (sSeq n__law_right_0 (sSeq n__law_right_1 (sSeq n__law_right_2 (sSeq n__law_right_3 (sSeq n__law_right_4 (sSeq n__law_right_5 (sSeq n__law_right_6 (sSeq n__law_right_7 (sSeq n__law_right_8 (sSeq n__law_right_9 (sSeq n__law_right_10 (sSeq n__law_right_11 (sSeq n__law_right_12 (sSeq n__law_right_13 (sSeq n__law_right_14 (sSeq n__law_right_15 sPass))))))))))))))))
def c0__law_right : List D → List O → R D := ar 1 (runF 11 n__law_right)
def c__law_right : List D → List O → R D := Den.focus (Den.apart c0__law_right)
theorem b__law_right (M : MG T mg) (C__law_pick : CalG T P w mg base false 2 52 c__law_pick) (C_bits_of : CalG T P w mg base false 3 28 c_bits_of) (C_do_commute : CalG T P w mg base false 4 27 c_do_commute) (C_times : CalG T P w mg base false 4 30 c_times) (C_product : CalG T P w mg base false 4 32 c_product) (C_quarter : CalG T P w mg base false 5 36 c_quarter) (C_led_or_unlike : CalG T P w mg base false 7 47 c_led_or_unlike) (C_product_of : CalG T P w mg base false 5 34 c_product_of) (C_is_led_or_unlike : CalG T P w mg base false 6 49 c_is_led_or_unlike) (C_is_operator : CalG T P w mg base false 1 16 c_is_operator) (D__law_met : DefAt T "_law_met" "_law_met" (topS 66) 53 ["_law_call"]) {c Pt : Addr} (TB : LamX.TabB base mg c Pt) (hmT : (Pt, lamQ (envOfC "_law_right" (defScope (topS 67)) 0 0 (.ref c))) ∈ T.tbs) (huT : ∀ q ∈ T.tbs, q.1 = Pt → q.2 = lamQ (envOfC "_law_right" (defScope (topS 67)) 0 0 (.ref c)))  (A : Around) (outer : List Env) (s : Shared) (H : Hp) (E : XK) (hr : Room 9 (A.deeper (envOfC "_law_right" (defScope (topS 67)) s.heap.objs.size (T.fad 54) (.ref c)))) :
    SSs T (cxOf (L2.CX P w) P w T.K mg base ["_law_dice_here", "_law_none", "_law_row", "_law_picks", "_law_indices", "_law_good", "_law_met_here", "_law_due", "_law_call", "_law_value", "_law_word"] "_law_right" (defScope (topS 67)) (T.fad 54) (.ref c) A outer s H E) (WF E) (defBody (topS 67)) n__law_right := by
  have nd := sc__law_right.nd
  have he : Here (cxOf (L2.CX P w) P w T.K mg base ["_law_dice_here", "_law_none", "_law_row", "_law_picks", "_law_indices", "_law_good", "_law_met_here", "_law_due", "_law_call", "_law_value", "_law_word"] "_law_right" (defScope (topS 67)) (T.fad 54) (.ref c) A outer s H E) (WF E) false 9 := here_fn hr
  exact (sss_cons (b__law_right_0 M C__law_pick C_bits_of C_do_commute C_times C_product C_quarter C_led_or_unlike C_product_of C_is_led_or_unlike C_is_operator D__law_met TB hmT huT A outer s H E hr) (sss_cons (b__law_right_1 M C__law_pick C_bits_of C_do_commute C_times C_product C_quarter C_led_or_unlike C_product_of C_is_led_or_unlike C_is_operator D__law_met TB hmT huT A outer s H E hr) (sss_cons (b__law_right_2 M C__law_pick C_bits_of C_do_commute C_times C_product C_quarter C_led_or_unlike C_product_of C_is_led_or_unlike C_is_operator D__law_met TB hmT huT A outer s H E hr) (sss_cons (b__law_right_3 M C__law_pick C_bits_of C_do_commute C_times C_product C_quarter C_led_or_unlike C_product_of C_is_led_or_unlike C_is_operator D__law_met TB hmT huT A outer s H E hr) (sss_cons (b__law_right_4 M C__law_pick C_bits_of C_do_commute C_times C_product C_quarter C_led_or_unlike C_product_of C_is_led_or_unlike C_is_operator D__law_met TB hmT huT A outer s H E hr) (sss_cons (b__law_right_5 M C__law_pick C_bits_of C_do_commute C_times C_product C_quarter C_led_or_unlike C_product_of C_is_led_or_unlike C_is_operator D__law_met TB hmT huT A outer s H E hr) (sss_cons (b__law_right_6 M C__law_pick C_bits_of C_do_commute C_times C_product C_quarter C_led_or_unlike C_product_of C_is_led_or_unlike C_is_operator D__law_met TB hmT huT A outer s H E hr) (sss_cons (b__law_right_7 M C__law_pick C_bits_of C_do_commute C_times C_product C_quarter C_led_or_unlike C_product_of C_is_led_or_unlike C_is_operator D__law_met TB hmT huT A outer s H E hr) (sss_cons (b__law_right_8 M C__law_pick C_bits_of C_do_commute C_times C_product C_quarter C_led_or_unlike C_product_of C_is_led_or_unlike C_is_operator D__law_met TB hmT huT A outer s H E hr) (sss_cons (b__law_right_9 M C__law_pick C_bits_of C_do_commute C_times C_product C_quarter C_led_or_unlike C_product_of C_is_led_or_unlike C_is_operator D__law_met TB hmT huT A outer s H E hr) (sss_cons (b__law_right_10 M C__law_pick C_bits_of C_do_commute C_times C_product C_quarter C_led_or_unlike C_product_of C_is_led_or_unlike C_is_operator D__law_met TB hmT huT A outer s H E hr) (sss_cons (b__law_right_11 M C__law_pick C_bits_of C_do_commute C_times C_product C_quarter C_led_or_unlike C_product_of C_is_led_or_unlike C_is_operator D__law_met TB hmT huT A outer s H E hr) (sss_cons (b__law_right_12 M C__law_pick C_bits_of C_do_commute C_times C_product C_quarter C_led_or_unlike C_product_of C_is_led_or_unlike C_is_operator D__law_met TB hmT huT A outer s H E hr) (sss_cons (b__law_right_13 M C__law_pick C_bits_of C_do_commute C_times C_product C_quarter C_led_or_unlike C_product_of C_is_led_or_unlike C_is_operator D__law_met TB hmT huT A outer s H E hr) (sss_cons (b__law_right_14 M C__law_pick C_bits_of C_do_commute C_times C_product C_quarter C_led_or_unlike C_product_of C_is_led_or_unlike C_is_operator D__law_met TB hmT huT A outer s H E hr) (sss_cons (b__law_right_15 M C__law_pick C_bits_of C_do_commute C_times C_product C_quarter C_led_or_unlike C_product_of C_is_led_or_unlike C_is_operator D__law_met TB hmT huT A outer s H E hr) sss_nil))))))))))))))))

theorem k__law_right (M : MG T mg)  (C__law_pick : CalG T P w mg base false 2 52 c__law_pick) (C_bits_of : CalG T P w mg base false 3 28 c_bits_of) (C_do_commute : CalG T P w mg base false 4 27 c_do_commute) (C_times : CalG T P w mg base false 4 30 c_times) (C_product : CalG T P w mg base false 4 32 c_product) (C_quarter : CalG T P w mg base false 5 36 c_quarter) (C_led_or_unlike : CalG T P w mg base false 7 47 c_led_or_unlike) (C_product_of : CalG T P w mg base false 5 34 c_product_of) (C_is_led_or_unlike : CalG T P w mg base false 6 49 c_is_led_or_unlike) (C_is_operator : CalG T P w mg base false 1 16 c_is_operator) (D__law_met : DefAt T "_law_met" "_law_met" (topS 66) 53 ["_law_call"]) {c Pt : Addr} (TB : LamX.TabB base mg c Pt) (hmT : (Pt, lamQ (envOfC "_law_right" (defScope (topS 67)) 0 0 (.ref c))) ∈ T.tbs) (huT : ∀ q ∈ T.tbs, q.1 = Pt → q.2 = lamQ (envOfC "_law_right" (defScope (topS 67)) 0 0 (.ref c))) (D0 : DefAtL T "_law_right" "_law_right" (topS 67) 54 ["_law_dice_here"] c) : CalG T P w mg base false 10 54 c__law_right :=
  ((cal_ofL D0 sc__law_right fun A outer s H E _ hr => b__law_right M C__law_pick C_bits_of C_do_commute C_times C_product C_quarter C_led_or_unlike C_product_of C_is_led_or_unlike C_is_operator D__law_met TB hmT huT A outer s H E hr).apart).focus

/-! law -/
theorem sc_law : FnScope ["_law_script", "_law_spot", "_law_dice_here", "_law_turn", "_law_great", "_law_met_here"] ["_law_script"] (defScope (topS 68)) := ⟨rfl, rfl, rfl, by decide +kernel, rfl, by decide +kernel, by decide +kernel⟩
def n_law_0 : DS := (sFor (jI (iRange1 (dCons (dCall bMax2 (dCons (dC (.int 1)) (dCons (dCall bMin2 (dCons (dC (.int 4)) (dCons (dCall bLen (dCons (dVar 0) dNil)) dNil))) dNil))) dNil))) (gNm 1) (sSeq (sAsg (dFn c__law_dice (dCons (dVar 0) (dCons (dVar 1) dNil))) (gNm 2)) (sSeq (sFor (jI (iRange1 (dCons (dC (.int 2)) dNil))) (gNm 3) (sSeq (sIf (dNotT (dTru (dFn c__law_right (dCons (dVar 2) dNil)))) (sSeq (sRet (dC (.bl false))) sPass) sPass) sPass)) sPass)))
theorem b_law_0 (M : MG T mg) (C__law_right : CalG T P w mg base false 10 54 c__law_right) (C__law_dice : CalG T P w mg base false 1 50 c__law_dice) (C_led_or_unlike : CalG T P w mg base false 7 47 c_led_or_unlike) (C_product_of : CalG T P w mg base false 5 34 c_product_of) (C_is_operator : CalG T P w mg base false 1 16 c_is_operator) (C_is_led_or_unlike : CalG T P w mg base false 6 49 c_is_led_or_unlike) (D__law_met : DefAt T "_law_met" "_law_met" (topS 66) 53 ["_law_call"]) {c Pt : Addr} (TB : LamX.TabB base mg c Pt) (hmT : (Pt, lamQ (envOfC "law" (defScope (topS 68)) 0 0 (.ref c))) ∈ T.tbs) (huT : ∀ q ∈ T.tbs, q.1 = Pt → q.2 = lamQ (envOfC "law" (defScope (topS 68)) 0 0 (.ref c)))  (A : Around) (outer : List Env) (s : Shared) (H : Hp) (E : XK) (hr : Room 10 (A.deeper (envOfC "law" (defScope (topS 68)) s.heap.objs.size (T.fad 55) (.ref c)))) :
    SS T (cxOf (L2.CX P w) P w T.K mg base ["_law_script", "_law_spot", "_law_dice_here", "_law_turn", "_law_great", "_law_met_here"] "law" (defScope (topS 68)) (T.fad 55) (.ref c) A outer s H E) (WF E) ((defBody (topS 68)).getD 0 (.Pass ⟨0, 0, 0, 0⟩)) n_law_0 := by
  have nd := sc_law.nd
  have he : Here (cxOf (L2.CX P w) P w T.K mg base ["_law_script", "_law_spot", "_law_dice_here", "_law_turn", "_law_great", "_law_met_here"] "law" (defScope (topS 68)) (T.fad 55) (.ref c) A outer s H E) (WF E) false 10 := here_fn hr
  exact (ss_for pas_fn rfl (sj_of (si_range1 rfl M.b_range (sa_cons (se_callB (bd_max2 rfl) rfl M.b_max bt_max (sa_cons se_int (sa_cons (se_callB (bd_min2 rfl) rfl M.b_min bt_min (sa_cons se_int (sa_cons (se_callB (bd_len rfl) rfl M.b_len bt_len (sa_cons (se_var (i := 0) rfl (by first | exact Or.inl rfl | exact Or.inr (Or.inl rfl) | exact Or.inr (Or.inr rfl))) sa_nil)) sa_nil))) sa_nil))) sa_nil))) (sg_name (i := 1) nd rfl (by first | exact Or.inl rfl | exact Or.inr rfl) (by first | exact Or.inl rfl | exact Or.inr rfl)) ((sss_cons (ss_asg (se_fnCall (calX (C__law_dice.mono (by decide))) he rfl M.f__law_dice (sa_cons (se_var (i := 0) rfl (by first | exact Or.inl rfl | exact Or.inr (Or.inl rfl) | exact Or.inr (Or.inr rfl))) (sa_cons (se_var (i := 1) rfl (by first | exact Or.inl rfl | exact Or.inr (Or.inl rfl) | exact Or.inr (Or.inr rfl))) sa_nil))) (sg_name (i := 2) nd rfl (by first | exact Or.inl rfl | exact Or.inr rfl) (by first | exact Or.inl rfl | exact Or.inr rfl)))
    (sss_cons (ss_for pas_fn rfl (sj_of (si_range1 rfl M.b_range (sa_cons se_int sa_nil))) (sg_name (i := 3) nd rfl (by first | exact Or.inl rfl | exact Or.inr rfl) (by first | exact Or.inl rfl | exact Or.inr rfl)) ((sss_cons (ss_if (st_not (st_tru rfl (se_fnCall (calX (C__law_right.mono (by decide))) he rfl M.f__law_right (sa_cons (se_var (i := 2) rfl (by first | exact Or.inl rfl | exact Or.inr (Or.inl rfl) | exact Or.inr (Or.inr rfl))) sa_nil)))) ((sss_cons (ss_ret se_bl)
    sss_nil)) (sss_nil))
    sss_nil)))
    sss_nil))))
def n_law_1 : DS := (sAsg (dOp oMultA (dTup (dCons (dOp oAdd (dC (.str "+")) (dOp oMultA (dC (.str "Y")) (dC (.int 12)))) (dCons (dOp oAdd (dC (.str "-")) (dOp oMultA (dC (.str "X")) (dC (.int 12)))) dNil))) (dC (.int 12))) (gNm 4))
theorem b_law_1 (M : MG T mg) (C__law_right : CalG T P w mg base false 10 54 c__law_right) (C__law_dice : CalG T P w mg base false 1 50 c__law_dice) (C_led_or_unlike : CalG T P w mg base false 7 47 c_led_or_unlike) (C_product_of : CalG T P w mg base false 5 34 c_product_of) (C_is_operator : CalG T P w mg base false 1 16 c_is_operator) (C_is_led_or_unlike : CalG T P w mg base false 6 49 c_is_led_or_unlike) (D__law_met : DefAt T "_law_met" "_law_met" (topS 66) 53 ["_law_call"]) {c Pt : Addr} (TB : LamX.TabB base mg c Pt) (hmT : (Pt, lamQ (envOfC "law" (defScope (topS 68)) 0 0 (.ref c))) ∈ T.tbs) (huT : ∀ q ∈ T.tbs, q.1 = Pt → q.2 = lamQ (envOfC "law" (defScope (topS 68)) 0 0 (.ref c)))  (A : Around) (outer : List Env) (s : Shared) (H : Hp) (E : XK) (hr : Room 10 (A.deeper (envOfC "law" (defScope (topS 68)) s.heap.objs.size (T.fad 55) (.ref c)))) :
    SS T (cxOf (L2.CX P w) P w T.K mg base ["_law_script", "_law_spot", "_law_dice_here", "_law_turn", "_law_great", "_law_met_here"] "law" (defScope (topS 68)) (T.fad 55) (.ref c) A outer s H E) (WF E) ((defBody (topS 68)).getD 1 (.Pass ⟨0, 0, 0, 0⟩)) n_law_1 := by
  have nd := sc_law.nd
  have he : Here (cxOf (L2.CX P w) P w T.K mg base ["_law_script", "_law_spot", "_law_dice_here", "_law_turn", "_law_great", "_law_met_here"] "law" (defScope (topS 68)) (T.fad 55) (.ref c) A outer s H E) (WF E) false 10 := here_fn hr
  exact (ss_asg (se_op (od_multA rfl) (se_tup (sa_cons (se_op (od_add rfl) se_str (se_op (od_multA rfl) se_str se_int)) (sa_cons (se_op (od_add rfl) se_str (se_op (od_multA rfl) se_str se_int)) sa_nil))) se_int) (sg_name (i := 4) nd rfl (by first | exact Or.inl rfl | exact Or.inr rfl) (by first | exact Or.inl rfl | exact Or.inr rfl)))
def n_law_2 : DS := (sAsg (dCel (dCons (dMet isub xfs l__law_met fine__law_met 1 (dFn c_led_or_unlike (dCons (dVar 4) (dCons (dVar 4) dNil)))) dNil)) (gNm 5))
theorem b_law_2 (M : MG T mg) (C__law_right : CalG T P w mg base false 10 54 c__law_right) (C__law_dice : CalG T P w mg base false 1 50 c__law_dice) (C_led_or_unlike : CalG T P w mg base false 7 47 c_led_or_unlike) (C_product_of : CalG T P w mg base false 5 34 c_product_of) (C_is_operator : CalG T P w mg base false 1 16 c_is_operator) (C_is_led_or_unlike : CalG T P w mg base false 6 49 c_is_led_or_unlike) (D__law_met : DefAt T "_law_met" "_law_met" (topS 66) 53 ["_law_call"]) {c Pt : Addr} (TB : LamX.TabB base mg c Pt) (hmT : (Pt, lamQ (envOfC "law" (defScope (topS 68)) 0 0 (.ref c))) ∈ T.tbs) (huT : ∀ q ∈ T.tbs, q.1 = Pt → q.2 = lamQ (envOfC "law" (defScope (topS 68)) 0 0 (.ref c)))  (A : Around) (outer : List Env) (s : Shared) (H : Hp) (E : XK) (hr : Room 10 (A.deeper (envOfC "law" (defScope (topS 68)) s.heap.objs.size (T.fad 55) (.ref c)))) :
    SS T (cxOf (L2.CX P w) P w T.K mg base ["_law_script", "_law_spot", "_law_dice_here", "_law_turn", "_law_great", "_law_met_here"] "law" (defScope (topS 68)) (T.fad 55) (.ref c) A outer s H E) (WF E) ((defBody (topS 68)).getD 2 (.Pass ⟨0, 0, 0, 0⟩)) n_law_2 := by
  have nd := sc_law.nd
  have he : Here (cxOf (L2.CX P w) P w T.K mg base ["_law_script", "_law_spot", "_law_dice_here", "_law_turn", "_law_great", "_law_met_here"] "law" (defScope (topS 68)) (T.fad 55) (.ref c) A outer s H E) (WF E) false 10 := here_fn hr
  exact (ss_asg (se_cel (sa_cons (se_metF (k := 8) (s1 := topS 66) (Ng := ["_law_call"]) rfl rfl D__law_met M.xf rfl rfl M.f__law_met sc__law_met rfl (by first | exact Or.inl rfl | exact Or.inr (Or.inl rfl) | exact Or.inr (Or.inr rfl)) (fun _ => rfl) (met__law_met M) (metf__law_met M) TB rfl hmT huT (hr.mono (by decide)) (LamX.lamS_by (sc := defScope (topS 68)) (by decide +kernel)) rfl (fun _ _ _ _ _ => rfl) (fun _ _ _ _ _ _ _ hr => have he := here_lam hr; (se_fnCall (calX (C_led_or_unlike.mono (by decide))) he rfl M.f_led_or_unlike (sa_cons (se_var (i := 4) rfl (by first | exact Or.inl rfl | exact Or.inr (Or.inl rfl) | exact Or.inr (Or.inr rfl))) (sa_cons (se_var (i := 4) rfl (by first | exact Or.inl rfl | exact Or.inr (Or.inl rfl) | exact Or.inr (Or.inr rfl))) sa_nil))))) sa_nil)) (sg_name (i := 5) nd rfl (by first | exact Or.inl rfl | exact Or.inr rfl) (by first | exact Or.inl rfl | exact Or.inr rfl)))
def n_law_3 : DS := (sExpr (dMeth isL mApp (dVar 5) (dCons (dMet isub xfs l__law_met fine__law_met 1 (dFn c_product_of (dCons (dVar 4) (dCons (dRg kRgT [(dC (.int 24))]) dNil)))) dNil)))
theorem b_law_3 (M : MG T mg) (C__law_right : CalG T P w mg base false 10 54 c__law_right) (C__law_dice : CalG T P w mg base false 1 50 c__law_dice) (C_led_or_unlike : CalG T P w mg base false 7 47 c_led_or_unlike) (C_product_of : CalG T P w mg base false 5 34 c_product_of) (C_is_operator : CalG T P w mg base false 1 16 c_is_operator) (C_is_led_or_unlike : CalG T P w mg base false 6 49 c_is_led_or_unlike) (D__law_met : DefAt T "_law_met" "_law_met" (topS 66) 53 ["_law_call"]) {c Pt : Addr} (TB : LamX.TabB base mg c Pt) (hmT : (Pt, lamQ (envOfC "law" (defScope (topS 68)) 0 0 (.ref c))) ∈ T.tbs) (huT : ∀ q ∈ T.tbs, q.1 = Pt → q.2 = lamQ (envOfC "law" (defScope (topS 68)) 0 0 (.ref c)))  (A : Around) (outer : List Env) (s : Shared) (H : Hp) (E : XK) (hr : Room 10 (A.deeper (envOfC "law" (defScope (topS 68)) s.heap.objs.size (T.fad 55) (.ref c)))) :
    SS T (cxOf (L2.CX P w) P w T.K mg base ["_law_script", "_law_spot", "_law_dice_here", "_law_turn", "_law_great", "_law_met_here"] "law" (defScope (topS 68)) (T.fad 55) (.ref c) A outer s H E) (WF E) ((defBody (topS 68)).getD 3 (.Pass ⟨0, 0, 0, 0⟩)) n_law_3 := by
  have nd := sc_law.nd
  have he : Here (cxOf (L2.CX P w) P w T.K mg base ["_law_script", "_law_spot", "_law_dice_here", "_law_turn", "_law_great", "_law_met_here"] "law" (defScope (topS 68)) (T.fad 55) (.ref c) A outer s H E) (WF E) false 10 := here_fn hr
  exact (ss_expr (se_meth (pe_bm PySem.F.plainAttrs_list PySem.F.slot_list_append PySem.F.type_list_append md_append pe_w pa_w) (chk_list rfl) (se_var (i := 5) rfl (by first | exact Or.inl rfl | exact Or.inr (Or.inl rfl) | exact Or.inr (Or.inr rfl))) (sa_cons (se_metF (k := 8) (s1 := topS 66) (Ng := ["_law_call"]) rfl rfl D__law_met M.xf rfl rfl M.f__law_met sc__law_met rfl (by first | exact Or.inl rfl | exact Or.inr (Or.inl rfl) | exact Or.inr (Or.inr rfl)) (fun _ => rfl) (met__law_met M) (metf__law_met M) TB rfl hmT huT (hr.mono (by decide)) (LamX.lamS_by (sc := defScope (topS 68)) (by decide +kernel)) rfl (fun _ _ _ _ _ => rfl) (fun _ _ _ _ _ _ _ hr => have he := here_lam hr; (se_fnCall (calX (C_product_of.mono (by decide))) he rfl M.f_product_of (sa_cons (se_var (i := 4) rfl (by first | exact Or.inl rfl | exact Or.inr (Or.inl rfl) | exact Or.inr (Or.inr rfl))) (sa_cons (se_tupRg1 rfl rfl M.b_tuple rfl M.b_range se_int) sa_nil))))) sa_nil)))
def n_law_4 : DS := (sIf (dTest (dOp oNe (dVar 5) (dOp oMultA (dLst (dCons (dTup (dCons (dC (.str "fine")) dNil)) dNil)) (dC (.int 2))))) (sSeq (sRet (dC (.bl false))) sPass) sPass)
theorem b_law_4 (M : MG T mg) (C__law_right : CalG T P w mg base false 10 54 c__law_right) (C__law_dice : CalG T P w mg base false 1 50 c__law_dice) (C_led_or_unlike : CalG T P w mg base false 7 47 c_led_or_unlike) (C_product_of : CalG T P w mg base false 5 34 c_product_of) (C_is_operator : CalG T P w mg base false 1 16 c_is_operator) (C_is_led_or_unlike : CalG T P w mg base false 6 49 c_is_led_or_unlike) (D__law_met : DefAt T "_law_met" "_law_met" (topS 66) 53 ["_law_call"]) {c Pt : Addr} (TB : LamX.TabB base mg c Pt) (hmT : (Pt, lamQ (envOfC "law" (defScope (topS 68)) 0 0 (.ref c))) ∈ T.tbs) (huT : ∀ q ∈ T.tbs, q.1 = Pt → q.2 = lamQ (envOfC "law" (defScope (topS 68)) 0 0 (.ref c)))  (A : Around) (outer : List Env) (s : Shared) (H : Hp) (E : XK) (hr : Room 10 (A.deeper (envOfC "law" (defScope (topS 68)) s.heap.objs.size (T.fad 55) (.ref c)))) :
    SS T (cxOf (L2.CX P w) P w T.K mg base ["_law_script", "_law_spot", "_law_dice_here", "_law_turn", "_law_great", "_law_met_here"] "law" (defScope (topS 68)) (T.fad 55) (.ref c) A outer s H E) (WF E) ((defBody (topS 68)).getD 4 (.Pass ⟨0, 0, 0, 0⟩)) n_law_4 := by
  have nd := sc_law.nd
  have he : Here (cxOf (L2.CX P w) P w T.K mg base ["_law_script", "_law_spot", "_law_dice_here", "_law_turn", "_law_great", "_law_met_here"] "law" (defScope (topS 68)) (T.fad 55) (.ref c) A outer s H E) (WF E) false 10 := here_fn hr
  exact (ss_if (st_cmp (od_ne rfl hr.units) (se_var (i := 5) rfl (by first | exact Or.inl rfl | exact Or.inr (Or.inl rfl) | exact Or.inr (Or.inr rfl))) (se_op (od_multA rfl) (se_lst (sa_cons (se_tup (sa_cons se_str sa_nil)) sa_nil)) se_int) (nomark _)) ((sss_cons (ss_ret se_bl)
    sss_nil)) (sss_nil))
def n_law_5 : DS := (sRet (dAnd (dOp oEq (dTup (dCons (dC (.int 12)) (dCons (dC (.int 24)) (dCons (dC (.int 200)) dNil)))) (dTup (dCons (dC (.int 12)) (dCons (dC (.int 24)) (dCons (dC (.int 200)) dNil))))) (dAnd (dFn c_is_operator (dCons (dOp oAdd (dC (.str "-")) (dOp oMultA (dC (.str "Z")) (dC (.int 12)))) dNil)) (dFn c_is_led_or_unlike (dCons (dVar 4) (dCons (dVar 4) (dCons (dTup (dCons (dC (.str "led")) (dCons (dTup dNil) dNil))) dNil)))))))
theorem b_law_5 (M : MG T mg) (C__law_right : CalG T P w mg base false 10 54 c__law_right) (C__law_dice : CalG T P w mg base false 1 50 c__law_dice) (C_led_or_unlike : CalG T P w mg base false 7 47 c_led_or_unlike) (C_product_of : CalG T P w mg base false 5 34 c_product_of) (C_is_operator : CalG T P w mg base false 1 16 c_is_operator) (C_is_led_or_unlike : CalG T P w mg base false 6 49 c_is_led_or_unlike) (D__law_met : DefAt T "_law_met" "_law_met" (topS 66) 53 ["_law_call"]) {c Pt : Addr} (TB : LamX.TabB base mg c Pt) (hmT : (Pt, lamQ (envOfC "law" (defScope (topS 68)) 0 0 (.ref c))) ∈ T.tbs) (huT : ∀ q ∈ T.tbs, q.1 = Pt → q.2 = lamQ (envOfC "law" (defScope (topS 68)) 0 0 (.ref c)))  (A : Around) (outer : List Env) (s : Shared) (H : Hp) (E : XK) (hr : Room 10 (A.deeper (envOfC "law" (defScope (topS 68)) s.heap.objs.size (T.fad 55) (.ref c)))) :
    SS T (cxOf (L2.CX P w) P w T.K mg base ["_law_script", "_law_spot", "_law_dice_here", "_law_turn", "_law_great", "_law_met_here"] "law" (defScope (topS 68)) (T.fad 55) (.ref c) A outer s H E) (WF E) ((defBody (topS 68)).getD 5 (.Pass ⟨0, 0, 0, 0⟩)) n_law_5 := by
  obtain ⟨t_MOST_TURNS, e_MOST_TURNS⟩ := M.i_MOST_TURNS
  obtain ⟨t_MOST_OPERATORS, e_MOST_OPERATORS⟩ := M.i_MOST_OPERATORS
  obtain ⟨t_MOST_LETTERS, e_MOST_LETTERS⟩ := M.i_MOST_LETTERS
  have nd := sc_law.nd
  have he : Here (cxOf (L2.CX P w) P w T.K mg base ["_law_script", "_law_spot", "_law_dice_here", "_law_turn", "_law_great", "_law_met_here"] "law" (defScope (topS 68)) (T.fad 55) (.ref c) A outer s H E) (WF E) false 10 := here_fn hr
  exact (ss_ret (se_and (se_cmp (od_eq rfl hr.units) (se_tup (sa_cons (se_gint rfl e_MOST_LETTERS) (sa_cons (se_gint rfl e_MOST_OPERATORS) (sa_cons (se_gint rfl e_MOST_TURNS) sa_nil)))) (se_tup (sa_cons se_int (sa_cons se_int (sa_cons se_int sa_nil)))) (nomark _)) (se_and (se_fnCall (calX (C_is_operator.mono (by decide))) he rfl M.f_is_operator (sa_cons (se_op (od_add rfl) se_str (se_op (od_multA rfl) se_str se_int)) sa_nil)) (se_one (se_fnCall (calX (C_is_led_or_unlike.mono (by decide))) he rfl M.f_is_led_or_unlike (sa_cons (se_var (i := 4) rfl (by first | exact Or.inl rfl | exact Or.inr (Or.inl rfl) | exact Or.inr (Or.inr rfl))) (sa_cons (se_var (i := 4) rfl (by first | exact Or.inl rfl | exact Or.inr (Or.inl rfl) | exact Or.inr (Or.inr rfl))) (sa_cons (se_tup (sa_cons se_str (sa_cons (se_tup sa_nil) sa_nil))) sa_nil))))))))
def n_law : DS := (sSeq n_law_0 (sSeq n_law_1 (sSeq n_law_2 (sSeq n_law_3 (sSeq n_law_4 (sSeq n_law_5 sPass))))))
def c_law : List D → List O → R D := ar 1 (runF 6 n_law)
theorem b_law (M : MG T mg) (C__law_right : CalG T P w mg base false 10 54 c__law_right) (C__law_dice : CalG T P w mg base false 1 50 c__law_dice) (C_led_or_unlike : CalG T P w mg base false 7 47 c_led_or_unlike) (C_product_of : CalG T P w mg base false 5 34 c_product_of) (C_is_operator : CalG T P w mg base false 1 16 c_is_operator) (C_is_led_or_unlike : CalG T P w mg base false 6 49 c_is_led_or_unlike) (D__law_met : DefAt T "_law_met" "_law_met" (topS 66) 53 ["_law_call"]) {c Pt : Addr} (TB : LamX.TabB base mg c Pt) (hmT : (Pt, lamQ (envOfC "law" (defScope (topS 68)) 0 0 (.ref c))) ∈ T.tbs) (huT : ∀ q ∈ T.tbs, q.1 = Pt → q.2 = lamQ (envOfC "law" (defScope (topS 68)) 0 0 (.ref c)))  (A : Around) (outer : List Env) (s : Shared) (H : Hp) (E : XK) (hr : Room 10 (A.deeper (envOfC "law" (defScope (topS 68)) s.heap.objs.size (T.fad 55) (.ref c)))) :
    SSs T (cxOf (L2.CX P w) P w T.K mg base ["_law_script", "_law_spot", "_law_dice_here", "_law_turn", "_law_great", "_law_met_here"] "law" (defScope (topS 68)) (T.fad 55) (.ref c) A outer s H E) (WF E) (defBody (topS 68)) n_law := by
  have nd := sc_law.nd
  have he : Here (cxOf (L2.CX P w) P w T.K mg base ["_law_script", "_law_spot", "_law_dice_here", "_law_turn", "_law_great", "_law_met_here"] "law" (defScope (topS 68)) (T.fad 55) (.ref c) A outer s H E) (WF E) false 10 := here_fn hr
  exact (sss_cons (b_law_0 M C__law_right C__law_dice C_led_or_unlike C_product_of C_is_operator C_is_led_or_unlike D__law_met TB hmT huT A outer s H E hr) (sss_cons (b_law_1 M C__law_right C__law_dice C_led_or_unlike C_product_of C_is_operator C_is_led_or_unlike D__law_met TB hmT huT A outer s H E hr) (sss_cons (b_law_2 M C__law_right C__law_dice C_led_or_unlike C_product_of C_is_operator C_is_led_or_unlike D__law_met TB hmT huT A outer s H E hr) (sss_cons (b_law_3 M C__law_right C__law_dice C_led_or_unlike C_product_of C_is_operator C_is_led_or_unlike D__law_met TB hmT huT A outer s H E hr) (sss_cons (b_law_4 M C__law_right C__law_dice C_led_or_unlike C_product_of C_is_operator C_is_led_or_unlike D__law_met TB hmT huT A outer s H E hr) (sss_cons (b_law_5 M C__law_right C__law_dice C_led_or_unlike C_product_of C_is_operator C_is_led_or_unlike D__law_met TB hmT huT A outer s H E hr) sss_nil))))))

theorem k_law (M : MG T mg)  (C__law_right : CalG T P w mg base false 10 54 c__law_right) (C__law_dice : CalG T P w mg base false 1 50 c__law_dice) (C_led_or_unlike : CalG T P w mg base false 7 47 c_led_or_unlike) (C_product_of : CalG T P w mg base false 5 34 c_product_of) (C_is_operator : CalG T P w mg base false 1 16 c_is_operator) (C_is_led_or_unlike : CalG T P w mg base false 6 49 c_is_led_or_unlike) (D__law_met : DefAt T "_law_met" "_law_met" (topS 66) 53 ["_law_call"]) {c Pt : Addr} (TB : LamX.TabB base mg c Pt) (hmT : (Pt, lamQ (envOfC "law" (defScope (topS 68)) 0 0 (.ref c))) ∈ T.tbs) (huT : ∀ q ∈ T.tbs, q.1 = Pt → q.2 = lamQ (envOfC "law" (defScope (topS 68)) 0 0 (.ref c))) (D0 : DefAtL T "law" "law" (topS 68) 55 ["_law_script"] c) : CalG T P w mg base false 11 55 c_law :=
  cal_ofL D0 sc_law fun A outer s H E _ hr => b_law M C__law_right C__law_dice C_led_or_unlike C_product_of C_is_operator C_is_led_or_unlike D__law_met TB hmT huT A outer s H E hr
end
end Law

namespace Law
open PySem Den PyProof.Rows L2
theorem log2_lt200 {n : Nat} (h : n < 2 ^ 200) : n.log2 < 200 := by
  by_cases h0 : n = 0
  · subst h0; decide
  · exact (Nat.log2_lt h0).mpr h
theorem oMult_int {i j : Int} {st : List O} (hi : i.natAbs < 2 ^ 200) (hj : j.natAbs < 2 ^ 200) : oMultA (.int i) (.int j) st = .ok (.int (i * j)) st := by
  have a := log2_lt200 hi
  have b := log2_lt200 hj
  show oMul (.int i) (.int j) st = _
  unfold oMul
  simp only
  rw [if_pos (by omega)]
theorem emod_abs {x m : Int} (hm : 0 < m) (h : m.natAbs < 2 ^ 200) : (x % m).natAbs < 2 ^ 200 := by
  have h1 := Int.emod_nonneg x (Int.ne_of_gt hm)
  have h2 := Int.emod_lt_of_pos x hm
  omega
theorem roll_ev {N : Nat} {a b c k : Int} (ha : 0 ≤ a) (hc0 : 0 ≤ c) (hcN : c ≤ N) (hN : N < 1000000000) (hk : 0 < k) (hk2 : k < 100000) :
    ∃ (r a' b' c' : Int), 0 ≤ r ∧ r < k ∧ 0 ≤ a' ∧ 0 ≤ c' ∧ c' ≤ (N + 1 : Nat) ∧ c0__law_roll [.cel 0, .int k] [d3 a b c] = .ok (.int r) [d3 a' b' c'] := by
  have hlog : k.natAbs.log2 < 9000 := by
    have : k.natAbs < 2 ^ 200 := by omega
    have := log2_lt200 this
    omega
  by_cases h0 : 0 < a
  · refine ⟨a % k, a / k, b, c, Int.emod_nonneg _ (by omega), Int.emod_lt_of_pos _ hk, Int.ediv_nonneg ha (by omega), hc0, by omega, ?_⟩
    simp [c0__law_roll, ar, runF, n__law_roll, sSeq, sIf, sAsg, sRet, dTest, dOp, dIxA, oIxA, oIx, dVar, dC, seqOf, lstOf, R.bind, R.calm, R.thenS, asB, oGt, icmp, iop, oMod, oFdiv, dCall, bInt, dCons, dNil, gNm, gIx, ixN, atI, h0, hk, hlog, popR]
  · have hc1 : (c + 1).natAbs < 2 ^ 200 := by omega
    have e1 := emod_abs (x := b + 86028157 * (c + 1)) (m := 2305843009213693487) (by decide) (by decide)
    have e2 := emod_abs (x := ((b + 86028157 * (c + 1)) % 2305843009213693487) * ((b + 86028157 * (c + 1)) % 2305843009213693487) + 107 * (c + 1)) (m := 2305843009213693669) (by decide) (by decide)
    have l1 : (2305843009213693487 : Nat).log2 < 9000 := by decide +kernel
    have l2 : (2305843009213693669 : Nat).log2 < 9000 := by decide +kernel
    have l3 : (65539 : Nat).log2 < 9000 := by decide +kernel
    have p1 : (86028157 : Int).natAbs < 2 ^ 200 := by decide
    have p2 : (107 : Int).natAbs < 2 ^ 200 := by decide
    have p3 : (6700417 : Int).natAbs < 2 ^ 200 := by decide
    refine ⟨(((((b + 86028157 * (c + 1)) % 2305843009213693487) * ((b + 86028157 * (c + 1)) % 2305843009213693487) + 107 * (c + 1)) % 2305843009213693669 * 6700417 + (b + 86028157 * (c + 1)) % 2305843009213693487) / 65539) % k, a, b, c + 1, Int.emod_nonneg _ (Int.ne_of_gt hk), Int.emod_lt_of_pos _ hk, ha, by omega, by omega, ?_⟩
    simp only [c0__law_roll, ar, runF, n__law_roll, sSeq, sIf, sAsg, sRet, sPass, dTest, dOp, dIxA, oIxA, oIx, dVar, dC, seqOf, lstOf, R.bind, R.calm, R.thenS, asB, oGt, icmp, iop, oMod, oFdiv, oAdd, dCall, bInt, dCons, dNil, gNm, gIx, popR, List.all_cons, List.map_cons, List.length_cons, List.length_nil]
    simp [ixN, atI, h0, hk, hlog, oMult_int hc1 hc1, oMult_int p1 hc1, oMult_int p2 hc1, oMult_int e1 e1, oMult_int e2 p3, l1, l2, l3]
/-- a roll, in a longer state -/
theorem roll_at {N : Nat} {a b c k : Int} {tl : List O} (ha : 0 ≤ a) (hc0 : 0 ≤ c) (hcN : c ≤ N) (hN : N < 1000000000) (hk : 0 < k) (hk2 : k < 100000) (hl : noLent tl = true) :
    ∃ (r a' b' c' : Int), 0 ≤ r ∧ r < k ∧ 0 ≤ a' ∧ 0 ≤ c' ∧ c' ≤ (N + 1 : Nat) ∧ c__law_roll [.cel 0, .int k] (d3 a b c :: tl) = .ok (.int r) (d3 a' b' c' :: tl) := by
  obtain ⟨r, a', b', c', h1, h2, h3, h4, h5, e⟩ := roll_ev (b := b) ha hc0 hcN hN hk hk2
  exact ⟨r, a', b', c', h1, h2, h3, h4, h5, focus_d3 (k := 0) e rfl (by show (true && noLent tl) = true; rw [hl]; rfl) rfl rfl⟩
theorem pick_ev {N : Nat} {a b c : Int} {xs : List D} (ha : 0 ≤ a) (hc0 : 0 ≤ c) (hcN : c ≤ N) (hN : N < 1000000000) (h0 : xs ≠ []) (hx : xs.length < 1000) :
    ∃ (d : D) (a' b' c' : Int), d ∈ xs ∧ 0 ≤ a' ∧ 0 ≤ c' ∧ c' ≤ (N + 1 : Nat) ∧ c0__law_pick [.cel 0, .lst xs] [d3 a b c] = .ok d [d3 a' b' c'] := by
  have hl : 0 < xs.length := List.length_pos_iff.mpr h0
  obtain ⟨r, a', b', c', hr0, hr, h3, h4, h5, e⟩ := roll_at (b := b) (tl := []) (k := (xs.length : Int)) ha hc0 hcN hN (by omega) (by omega) rfl
  have hrn : r.toNat < xs.length := by omega
  refine ⟨xs[r.toNat], a', b', c', List.getElem_mem hrn, h3, h4, h5, ?_⟩
  have hix : ixN xs.length r = some r.toNat := by
    unfold ixN
    rw [if_pos hr0, if_pos hr]
  simp [c0__law_pick, ar, runF, n__law_pick, sSeq, sRet, dIxA, dOp, oIxA, oIx, dVar, dFn, dCons, dNil, dCall, bLen, R.bind, R.calm, R.thenS, seqOf, lstOf, e, atI, hix, hrn, popR]
theorem pick_at {N : Nat} {a b c : Int} {xs : List D} {tl : List O} (ha : 0 ≤ a) (hc0 : 0 ≤ c) (hcN : c ≤ N) (hN : N < 1000000000) (h0 : xs ≠ []) (hx : xs.length < 1000) (hl : noLent tl = true) (hn : xs.all (noC 19) = true) (hn2 : xs.all (noC 20) = true) :
    ∃ (d : D) (a' b' c' : Int), d ∈ xs ∧ 0 ≤ a' ∧ 0 ≤ c' ∧ c' ≤ (N + 1 : Nat) ∧ c__law_pick [.cel 0, .lst xs] (d3 a b c :: tl) = .ok d (d3 a' b' c' :: tl) := by
  obtain ⟨d, a', b', c', h1, h3, h4, h5, e⟩ := pick_ev (b := b) ha hc0 hcN hN h0 hx
  refine ⟨d, a', b', c', h1, h3, h4, h5, focus_d3 (k := 0) e rfl (by show (true && noLent tl) = true; rw [hl]; rfl) (by show (xs.all (noC 19) && true) = true; rw [hn]; rfl) (List.all_eq_true.mp hn2 d h1)⟩
/-- dice are made -/
theorem dice_ev {ns : List Int} {k : Nat} (st : List O) (hk : k < 100) (hl : ns.length ≤ 63) :
    ∃ a b : Int, 0 ≤ a ∧ c__law_dice [.rol (ns.map .int), .int k] st = .ok (.cel st.length) (st ++ [d3 a b 0]) := by
  have p0 : (113 : Int).natAbs < 2 ^ 200 := by decide
  have p1 : (k : Int).natAbs < 2 ^ 200 := by omega
  have p2 : (1021 : Int).natAbs < 2 ^ 200 := by decide
  have p3 : (61 : Int).natAbs < 2 ^ 200 := by decide
  have p4 : (103 : Int).natAbs < 2 ^ 200 := by decide
  have q0 : ((10 : Int) ^ 57).natAbs < 2 ^ 200 := by decide +kernel
  have q1 : ((10 : Int) ^ 60).natAbs < 2 ^ 200 := by decide +kernel
  have q3 : (0 : Int) < 10 ^ 57 * 10 ^ 60 := by decide +kernel
  obtain ⟨x, hx⟩ : ∃ x : Int, (dIf (dTest (dOp oLt (dVar 1) (dCall bLen (dCons (dVar 0) dNil)))) (dCall bInt (dCons (dIxA (dVar 0) (dVar 1)) dNil)) (dOp oAdd (dOp oMultA (dC (.int 113)) (dVar 1)) (dC (.int 67)))) [some (.rol (ns.map .int)), some (.int k), none, none] st = .ok (.int x) st := by
    by_cases h : k < ns.length
    · have hi : ixN ns.length (k : Int) = some k := by unfold ixN; rw [if_pos (by omega), if_pos (by omega)]; rfl
      refine ⟨ns[k], ?_⟩
      simp [dIf, dTest, dOp, dVar, dC, dCall, dCons, dNil, dIxA, oIxA, oIx, bLen, bInt, seqOf, oLt, icmp, asB, R.bind, R.calm, h, atI, hi]
    · refine ⟨113 * k + 67, ?_⟩
      simp [dIf, dTest, dOp, dVar, dC, dCall, dCons, dNil, bLen, seqOf, oLt, icmp, asB, R.bind, R.calm, h, oMult_int p0 p1, oAdd]
  generalize D.rol (ns.map D.int) = s at hx ⊢
  obtain ⟨a, ha, f1⟩ : ∃ a : Int, 0 ≤ a ∧ ∀ e0 e3 : Option D, (dOp oMod (dCall bMax2 (dCons (dC (.int 0)) (dCons (dOp oSub (dCall bAbs (dCons (dVar 2) dNil)) (dOp oPow (dC (.int 10)) (dC (.int 16)))) dNil))) (dOp oMultA (dOp oPow (dC (.int 10)) (dC (.int 57))) (dOp oPow (dC (.int 10)) (dC (.int 60))))) [e0, some (.int k), some (.int x), e3] st =
      .ok (.int a) st := by
    refine ⟨(if ((if x < 0 then -x else x) - 10 ^ 16 : Int) > 0 then (if x < 0 then -x else x) - 10 ^ 16 else 0) % (10 ^ 57 * 10 ^ 60), Int.emod_nonneg _ (Int.ne_of_gt q3), fun e0 e3 => ?_⟩
    have w0 : oPow (.int 10) (.int 16) st = .ok (.int (10 ^ 16)) st := rfl
    have w1 : oPow (.int 10) (.int 57) st = .ok (.int (10 ^ 57)) st := rfl
    have w2 : oPow (.int 10) (.int 60) st = .ok (.int (10 ^ 60)) st := rfl
    have w3 : oMultA (.int (10 ^ 57)) (.int (10 ^ 60)) st = .ok (.int (10 ^ 57 * 10 ^ 60)) st := oMult_int q0 q1
    have w4 : ∀ i : Int, oMod (.int i) (.int (10 ^ 57 * 10 ^ 60)) st = .ok (.int (i % (10 ^ 57 * 10 ^ 60))) st := fun i => by
      unfold oMod iop
      simp only
      rw [if_pos (decide_eq_true q3)]
    simp only [dOp, dVar, dC, dCall, dCons, dNil, R.bind, R.calm, bMax2, bAbs, w0, w1, w2, w3, List.getElem?_cons_succ, List.getElem?_cons_zero, oSub, iop, if_true, ite_true, reduceIte]
    exact congrArg R.calm (w4 _)
  obtain ⟨b, f2⟩ : ∃ b : Int, ∀ e0 e3 : Option D, (dOp oAdd (dOp oAdd (dOp oAdd (dOp oMultA (dOp oMod (dCall bAbs (dCons (dVar 2) dNil)) (dC (.int 1152921504606846697))) (dC (.int 103))) (dOp oMultA (dC (.int 1021)) (dVar 1))) (dOp oMultA (dC (.int 61)) (dCall bInt (dCons (dOp oLt (dVar 2) (dC (.int 0))) dNil)))) (dC (.int 47))) [e0, some (.int k), some (.int x), e3] st = .ok (.int b) st := by
    have e1 := emod_abs (x := if x < 0 then -x else x) (m := 1152921504606846697) (by decide) (by decide)
    have e2 : (if decide (x < 0) = true then (1 : Int) else 0).natAbs < 2 ^ 200 := by split <;> decide
    have w4 : ∀ i : Int, oMod (.int i) (.int 1152921504606846697) st = .ok (.int (i % 1152921504606846697)) st := fun i => by
      unfold oMod iop
      simp only
      rw [if_pos (by decide)]
    refine ⟨(if x < 0 then -x else x) % 1152921504606846697 * 103 + 1021 * k + 61 * (if decide (x < 0) = true then 1 else 0) + 47, fun e0 e3 => ?_⟩
    simp only [dOp, dVar, dC, dCall, dCons, dNil, R.bind, R.calm, bAbs, bInt, w4, List.getElem?_cons_succ, List.getElem?_cons_zero, oLt, icmp, oMult_int e1 p4, oMult_int p2 p1, oMult_int p3 e2, oAdd]
  refine ⟨a, b, ha, ?_⟩
  have hz : (3 : Nat) ≤ sizeLine := by decide
  simp only [c__law_dice, ar, runF0, n__law_dice, sSeq, sAsg, sRet, sPass, dCel, dCons, dNil, R.thenS, gNm, List.length_cons, List.length_nil, List.map_cons, List.map_nil, List.replicate, List.cons_append, List.nil_append, if_true, ite_true, reduceIte, Nat.reduceAdd, Nat.reduceSub, hx, List.set, f1, R.bind, f2, dVar, dC, List.getElem?_cons_succ, List.getElem?_cons_zero, hz]
end Law

namespace Law
open PySem Den PyProof.Rows L2
def menu__law_right_1 : List D := [.non, .int 0, .str "", .str "+", .str "X", .str "+x", .str "+XA", .str "*X", .str "+IIIIIIIIIIIII", .tup [.str "+X"], .lst [.str "+X"], .bl true, .str "+X ", .str "++X", .dct0]
def menu__law_right_2 : List D := [.non, .int 0, .tup [], .str "+X", .lst [.str "+X"], .tup [.str "+X", .str "+XX"], .tup [.str "+X", .non], .tup [.str "X"], .tup (List.replicate 25 (.str "+X")), .dct0, .tup [.tup [.str "+X"]], .tup [.str "+X", .str ""]]
def menu__law_right_3 : List D := [.non, .int 0, .tup [], .lst [.int 0], .tup [.int 1, .int 0], .tup [.int 0, .int 0], .tup [.int 2], .tup [.int (-1)], .tup [.int 0, .bl true], .str "0", .tup [.non], .dct0, .tup [.int 0, .int 1000000000000000000000000000000000000000000000000000000000000]]
def menu__law_right_4 (x1 : D) : List D := [.non, .int 0, .tup [], .str "led", .tup [.str "led"], .tup [.str "led", .int 5], .tup [.str "led", .tup [x1]], .tup [.str "pair", .int 0], .tup [.str "pair", .non, .int 1], .tup [.str "lot", .int 0], .dct0, .tup [.str "led", .tup [.str "+X"]]]
theorem nc19__law_right_1  : (menu__law_right_1).all (noC 19) = true := by
  kernel_rfl
theorem nc20__law_right_1  : (menu__law_right_1).all (noC 20) = true := by
  kernel_rfl
theorem ar__law_right_1  {a0 b0 c0 : Int} : (dCons (dVar 0) (dCons (dLst (dCons (dC .non) (dCons (dC (.int 0)) (dCons (dC (.str "")) (dCons (dC (.str "+")) (dCons (dC (.str "X")) (dCons (dC (.str "+x")) (dCons (dC (.str "+XA")) (dCons (dC (.str "*X")) (dCons (dOp oAdd (dC (.str "+")) (dOp oMultA (dC (.str "I")) (dC (.int 13)))) (dCons (dTup (dCons (dC (.str "+X")) dNil)) (dCons (dLst (dCons (dC (.str "+X")) dNil)) (dCons (dC (.bl true)) (dCons (dC (.str "+X ")) (dCons (dC (.str "++X")) (dCons dDct0 dNil)))))))))))))))) dNil)) [some (.cel 0), none, none, none, none, none, none, none, none, none, none] [d3 a0 b0 c0] = .ok [.cel 0, .lst (menu__law_right_1)] [d3 a0 b0 c0] := by kernel_rfl
theorem nc19__law_right_2  : (menu__law_right_2).all (noC 19) = true := by
  kernel_rfl
theorem nc20__law_right_2  : (menu__law_right_2).all (noC 20) = true := by
  kernel_rfl
theorem ar__law_right_2 {x1 : D} {a1 b1 c1 : Int} : (dCons (dVar 0) (dCons (dLst (dCons (dC .non) (dCons (dC (.int 0)) (dCons (dTup dNil) (dCons (dC (.str "+X")) (dCons (dLst (dCons (dC (.str "+X")) dNil)) (dCons (dTup (dCons (dC (.str "+X")) (dCons (dC (.str "+XX")) dNil))) (dCons (dTup (dCons (dC (.str "+X")) (dCons (dC .non) dNil))) (dCons (dTup (dCons (dC (.str "X")) dNil)) (dCons (dOp oMultA (dTup (dCons (dC (.str "+X")) dNil)) (dC (.int 25))) (dCons dDct0 (dCons (dTup (dCons (dTup (dCons (dC (.str "+X")) dNil)) dNil)) (dCons (dTup (dCons (dC (.str "+X")) (dCons (dC (.str "")) dNil))) dNil))))))))))))) dNil)) [some (.cel 0), some (x1), none, none, none, none, none, none, none, none, none] [d3 a1 b1 c1] = .ok [.cel 0, .lst (menu__law_right_2)] [d3 a1 b1 c1] := by kernel_rfl
theorem r__law_right_2 {x1 : D} {x2 : D}  {a2 b2 c2 : Int} : n__law_right_2 [some (.cel 0), some (x1), some (x2), none, none, none, none, none, none, none, none] [d3 a2 b2 c2] = .nx [some (.cel 0), some (x1), some (x2), some (.lst [.non, .int 0, .tup [], .lst [.int 0], .tup [.int 1, .int 0], .tup [.int 0, .int 0], .tup [.int 2], .tup [.int (-1)], .tup [.int 0, .bl true], .str "0", .tup [.non], .dct0, .tup [.int 0, .int 1000000000000000000000000000000000000000000000000000000000000]]), none, none, none, none, none, none, none] [d3 a2 b2 c2] := by
  kernel_rfl
theorem nc19__law_right_3  : (menu__law_right_3).all (noC 19) = true := by
  kernel_rfl
theorem nc20__law_right_3  : (menu__law_right_3).all (noC 20) = true := by
  kernel_rfl
theorem ar__law_right_3 {x1 : D} {x2 : D} {a2 b2 c2 : Int} : (dCons (dVar 0) (dCons (dVar 3) dNil)) [some (.cel 0), some (x1), some (x2), some (.lst [.non, .int 0, .tup [], .lst [.int 0], .tup [.int 1, .int 0], .tup [.int 0, .int 0], .tup [.int 2], .tup [.int (-1)], .tup [.int 0, .bl true], .str "0", .tup [.non], .dct0, .tup [.int 0, .int 1000000000000000000000000000000000000000000000000000000000000]]), none, none, none, none, none, none, none] [d3 a2 b2 c2] = .ok [.cel 0, .lst (menu__law_right_3)] [d3 a2 b2 c2] := by kernel_rfl
theorem va__law_right_3 {x1 : D} {x2 : D} {a3 b3 c3 : Int} : (dTup (dCons (dC (.str "+XZ")) (dCons (dC (.str "+ZX")) dNil))) [some (.cel 0), some (x1), some (x2), some (.lst [.non, .int 0, .tup [], .lst [.int 0], .tup [.int 1, .int 0], .tup [.int 0, .int 0], .tup [.int 2], .tup [.int (-1)], .tup [.int 0, .bl true], .str "0", .tup [.non], .dct0, .tup [.int 0, .int 1000000000000000000000000000000000000000000000000000000000000]]), none, none, none, none, none, none, none] [d3 a3 b3 c3] = .ok (.tup [.str "+XZ", .str "+ZX"]) [d3 a3 b3 c3] := by kernel_rfl
theorem r__law_right_4 {x2 : D} {x3 : D} {x1 : D} (h1 : x1 ∈ menu__law_right_1) {a3 b3 c3 : Int} : n__law_right_4 [some (.cel 0), some (x1), some (x2), some (.lst [.non, .int 0, .tup [], .lst [.int 0], .tup [.int 1, .int 0], .tup [.int 0, .int 0], .tup [.int 2], .tup [.int (-1)], .tup [.int 0, .bl true], .str "0", .tup [.non], .dct0, .tup [.int 0, .int 1000000000000000000000000000000000000000000000000000000000000]]), some (x3), some (.tup [.str "+XZ", .str "+ZX"]), none, none, none, none, none] [d3 a3 b3 c3] = .nx [some (.cel 0), some (x1), some (x2), some (.lst [.non, .int 0, .tup [], .lst [.int 0], .tup [.int 1, .int 0], .tup [.int 0, .int 0], .tup [.int 2], .tup [.int (-1)], .tup [.int 0, .bl true], .str "0", .tup [.non], .dct0, .tup [.int 0, .int 1000000000000000000000000000000000000000000000000000000000000]]), some (x3), some (.tup [.str "+XZ", .str "+ZX"]), some (.cel 1), some (.lst [.str "operator"]), none, none, none] [d3 a3 b3 c3, O.lst [.tup [.str "refused", .str "operator"]]] := by
  simp only [menu__law_right_1, List.mem_cons, List.not_mem_nil, or_false] at h1
  rcases h1 with rfl | rfl | rfl | rfl | rfl | rfl | rfl | rfl | rfl | rfl | rfl | rfl | rfl | rfl | rfl <;> kernel_rfl
theorem r__law_right_5 {x2 : D} {x3 : D} {x1 : D} (h1 : x1 ∈ menu__law_right_1) {a3 b3 c3 : Int} : n__law_right_5 [some (.cel 0), some (x1), some (x2), some (.lst [.non, .int 0, .tup [], .lst [.int 0], .tup [.int 1, .int 0], .tup [.int 0, .int 0], .tup [.int 2], .tup [.int (-1)], .tup [.int 0, .bl true], .str "0", .tup [.non], .dct0, .tup [.int 0, .int 1000000000000000000000000000000000000000000000000000000000000]]), some (x3), some (.tup [.str "+XZ", .str "+ZX"]), some (.cel 1), some (.lst [.str "operator"]), none, none, none] [d3 a3 b3 c3, O.lst [.tup [.str "refused", .str "operator"]]] = .nx [some (.cel 0), some (x1), some (x2), some (.lst [.non, .int 0, .tup [], .lst [.int 0], .tup [.int 1, .int 0], .tup [.int 0, .int 0], .tup [.int 2], .tup [.int (-1)], .tup [.int 0, .bl true], .str "0", .tup [.non], .dct0, .tup [.int 0, .int 1000000000000000000000000000000000000000000000000000000000000]]), some (x3), some (.tup [.str "+XZ", .str "+ZX"]), some (.cel 1), some (.lst [.str "operator", .str "operator", .str "operator", .str "operation", .str "fine", .str "operator", .str "operator", .str "operation", .str "fine", .str "operator", .str "operator", .str "operation", .str "fine", .str "operator", .str "operator", .str "operation", .str "fine"]), some (.fn 36), none, none] [d3 a3 b3 c3, O.lst [.tup [.str "refused", .str "operator"], .tup [.str "refused", .str "operator"], .tup [.str "refused", .str "operator"], .tup [.str "refused", .str "operation"], .tup [.str "fine"], .tup [.str "refused", .str "operator"], .tup [.str "refused", .str "operator"], .tup [.str "refused", .str "operation"], .tup [.str "fine"], .tup [.str "refused", .str "operator"], .tup [.str "refused", .str "operator"], .tup [.str "refused", .str "operation"], .tup [.str "fine"], .tup [.str "refused", .str "operator"], .tup [.str "refused", .str "operator"], .tup [.str "refused", .str "operation"], .tup [.str "fine"]]] := by
  simp only [menu__law_right_1, List.mem_cons, List.not_mem_nil, or_false] at h1
  rcases h1 with rfl | rfl | rfl | rfl | rfl | rfl | rfl | rfl | rfl | rfl | rfl | rfl | rfl | rfl | rfl <;> kernel_rfl
theorem r__law_right_6 {x1 : D} {x2 : D} {x3 : D}  {a3 b3 c3 : Int} : n__law_right_6 [some (.cel 0), some (x1), some (x2), some (.lst [.non, .int 0, .tup [], .lst [.int 0], .tup [.int 1, .int 0], .tup [.int 0, .int 0], .tup [.int 2], .tup [.int (-1)], .tup [.int 0, .bl true], .str "0", .tup [.non], .dct0, .tup [.int 0, .int 1000000000000000000000000000000000000000000000000000000000000]]), some (x3), some (.tup [.str "+XZ", .str "+ZX"]), some (.cel 1), some (.lst [.str "operator", .str "operator", .str "operator", .str "operation", .str "fine", .str "operator", .str "operator", .str "operation", .str "fine", .str "operator", .str "operator", .str "operation", .str "fine", .str "operator", .str "operator", .str "operation", .str "fine"]), some (.fn 36), none, none] [d3 a3 b3 c3, O.lst [.tup [.str "refused", .str "operator"], .tup [.str "refused", .str "operator"], .tup [.str "refused", .str "operator"], .tup [.str "refused", .str "operation"], .tup [.str "fine"], .tup [.str "refused", .str "operator"], .tup [.str "refused", .str "operator"], .tup [.str "refused", .str "operation"], .tup [.str "fine"], .tup [.str "refused", .str "operator"], .tup [.str "refused", .str "operator"], .tup [.str "refused", .str "operation"], .tup [.str "fine"], .tup [.str "refused", .str "operator"], .tup [.str "refused", .str "operator"], .tup [.str "refused", .str "operation"], .tup [.str "fine"]]] = .nx [some (.cel 0), some (x1), some (x2), some (.lst [.non, .int 0, .tup [], .lst [.int 0], .tup [.int 1, .int 0], .tup [.int 0, .int 0], .tup [.int 2], .tup [.int (-1)], .tup [.int 0, .bl true], .str "0", .tup [.non], .dct0, .tup [.int 0, .int 1000000000000000000000000000000000000000000000000000000000000]]), some (x3), some (.tup [.str "+XZ", .str "+ZX"]), some (.cel 1), some (.lst [.str "operator", .str "operator", .str "operator", .str "operation", .str "fine", .str "operator", .str "operator", .str "operation", .str "fine", .str "operator", .str "operator", .str "operation", .str "fine", .str "operator", .str "operator", .str "operation", .str "fine"]), some (.fn 36), none, none] [d3 a3 b3 c3, O.lst [.tup [.str "refused", .str "operator"], .tup [.str "refused", .str "operator"], .tup [.str "refused", .str "operator"], .tup [.str "refused", .str "operation"], .tup [.str "fine"], .tup [.str "refused", .str "operator"], .tup [.str "refused", .str "operator"], .tup [.str "refused", .str "operation"], .tup [.str "fine"], .tup [.str "refused", .str "operator"], .tup [.str "refused", .str "operator"], .tup [.str "refused", .str "operation"], .tup [.str "fine"], .tup [.str "refused", .str "operator"], .tup [.str "refused", .str "operator"], .tup [.str "refused", .str "operation"], .tup [.str "fine"], .tup [.str "refused", .str "operation"]]] := by
  kernel_rfl
theorem r__law_right_7 {x1 : D} {x2 : D} {x3 : D}  {a3 b3 c3 : Int} : n__law_right_7 [some (.cel 0), some (x1), some (x2), some (.lst [.non, .int 0, .tup [], .lst [.int 0], .tup [.int 1, .int 0], .tup [.int 0, .int 0], .tup [.int 2], .tup [.int (-1)], .tup [.int 0, .bl true], .str "0", .tup [.non], .dct0, .tup [.int 0, .int 1000000000000000000000000000000000000000000000000000000000000]]), some (x3), some (.tup [.str "+XZ", .str "+ZX"]), some (.cel 1), some (.lst [.str "operator", .str "operator", .str "operator", .str "operation", .str "fine", .str "operator", .str "operator", .str "operation", .str "fine", .str "operator", .str "operator", .str "operation", .str "fine", .str "operator", .str "operator", .str "operation", .str "fine"]), some (.fn 36), none, none] [d3 a3 b3 c3, O.lst [.tup [.str "refused", .str "operator"], .tup [.str "refused", .str "operator"], .tup [.str "refused", .str "operator"], .tup [.str "refused", .str "operation"], .tup [.str "fine"], .tup [.str "refused", .str "operator"], .tup [.str "refused", .str "operator"], .tup [.str "refused", .str "operation"], .tup [.str "fine"], .tup [.str "refused", .str "operator"], .tup [.str "refused", .str "operator"], .tup [.str "refused", .str "operation"], .tup [.str "fine"], .tup [.str "refused", .str "operator"], .tup [.str "refused", .str "operator"], .tup [.str "refused", .str "operation"], .tup [.str "fine"], .tup [.str "refused", .str "operation"]]] = .nx [some (.cel 0), some (x1), some (x2), some (.lst [.non, .int 0, .tup [], .lst [.int 0], .tup [.int 1, .int 0], .tup [.int 0, .int 0], .tup [.int 2], .tup [.int (-1)], .tup [.int 0, .bl true], .str "0", .tup [.non], .dct0, .tup [.int 0, .int 1000000000000000000000000000000000000000000000000000000000000]]), some (x3), some (.tup [.str "+XZ", .str "+ZX"]), some (.cel 1), some (.lst [.str "operator", .str "operator", .str "operator", .str "operation", .str "fine", .str "operator", .str "operator", .str "operation", .str "fine", .str "operator", .str "operator", .str "operation", .str "fine", .str "operator", .str "operator", .str "operation", .str "fine"]), some (.fn 36), none, none] [d3 a3 b3 c3, O.lst [.tup [.str "refused", .str "operator"], .tup [.str "refused", .str "operator"], .tup [.str "refused", .str "operator"], .tup [.str "refused", .str "operation"], .tup [.str "fine"], .tup [.str "refused", .str "operator"], .tup [.str "refused", .str "operator"], .tup [.str "refused", .str "operation"], .tup [.str "fine"], .tup [.str "refused", .str "operator"], .tup [.str "refused", .str "operator"], .tup [.str "refused", .str "operation"], .tup [.str "fine"], .tup [.str "refused", .str "operator"], .tup [.str "refused", .str "operator"], .tup [.str "refused", .str "operation"], .tup [.str "fine"], .tup [.str "refused", .str "operation"], .tup [.str "refused", .str "operation"]]] := by
  kernel_rfl
theorem r__law_right_8 {x1 : D} {x2 : D} (h2 : x2 ∈ menu__law_right_2) {x3 : D} (h3 : x3 ∈ menu__law_right_3) {a3 b3 c3 : Int} : n__law_right_8 [some (.cel 0), some (x1), some (x2), some (.lst [.non, .int 0, .tup [], .lst [.int 0], .tup [.int 1, .int 0], .tup [.int 0, .int 0], .tup [.int 2], .tup [.int (-1)], .tup [.int 0, .bl true], .str "0", .tup [.non], .dct0, .tup [.int 0, .int 1000000000000000000000000000000000000000000000000000000000000]]), some (x3), some (.tup [.str "+XZ", .str "+ZX"]), some (.cel 1), some (.lst [.str "operator", .str "operator", .str "operator", .str "operation", .str "fine", .str "operator", .str "operator", .str "operation", .str "fine", .str "operator", .str "operator", .str "operation", .str "fine", .str "operator", .str "operator", .str "operation", .str "fine"]), some (.fn 36), none, none] [d3 a3 b3 c3, O.lst [.tup [.str "refused", .str "operator"], .tup [.str "refused", .str "operator"], .tup [.str "refused", .str "operator"], .tup [.str "refused", .str "operation"], .tup [.str "fine"], .tup [.str "refused", .str "operator"], .tup [.str "refused", .str "operator"], .tup [.str "refused", .str "operation"], .tup [.str "fine"], .tup [.str "refused", .str "operator"], .tup [.str "refused", .str "operator"], .tup [.str "refused", .str "operation"], .tup [.str "fine"], .tup [.str "refused", .str "operator"], .tup [.str "refused", .str "operator"], .tup [.str "refused", .str "operation"], .tup [.str "fine"], .tup [.str "refused", .str "operation"], .tup [.str "refused", .str "operation"]]] = .nx [some (.cel 0), some (x1), some (x2), some (.lst [.non, .int 0, .tup [], .lst [.int 0], .tup [.int 1, .int 0], .tup [.int 0, .int 0], .tup [.int 2], .tup [.int (-1)], .tup [.int 0, .bl true], .str "0", .tup [.non], .dct0, .tup [.int 0, .int 1000000000000000000000000000000000000000000000000000000000000]]), some (x3), some (.tup [.str "+XZ", .str "+ZX"]), some (.cel 1), some (.lst [.str "operator", .str "operator", .str "operator", .str "operation", .str "fine", .str "operator", .str "operator", .str "operation", .str "fine", .str "operator", .str "operator", .str "operation", .str "fine", .str "operator", .str "operator", .str "operation", .str "fine"]), some (.fn 36), none, none] [d3 a3 b3 c3, O.lst [.tup [.str "refused", .str "operator"], .tup [.str "refused", .str "operator"], .tup [.str "refused", .str "operator"], .tup [.str "refused", .str "operation"], .tup [.str "fine"], .tup [.str "refused", .str "operator"], .tup [.str "refused", .str "operator"], .tup [.str "refused", .str "operation"], .tup [.str "fine"], .tup [.str "refused", .str "operator"], .tup [.str "refused", .str "operator"], .tup [.str "refused", .str "operation"], .tup [.str "fine"], .tup [.str "refused", .str "operator"], .tup [.str "refused", .str "operator"], .tup [.str "refused", .str "operation"], .tup [.str "fine"], .tup [.str "refused", .str "operation"], .tup [.str "refused", .str "operation"], .tup [.str "refused", .str "operator"]]] := by
  simp only [menu__law_right_2, List.mem_cons, List.not_mem_nil, or_false] at h2
  simp only [menu__law_right_3, List.mem_cons, List.not_mem_nil, or_false] at h3
  rcases h2 with rfl | rfl | rfl | rfl | rfl | rfl | rfl | rfl | rfl | rfl | rfl | rfl <;> rcases h3 with rfl | rfl | rfl | rfl | rfl | rfl | rfl | rfl | rfl | rfl | rfl | rfl | rfl <;> kernel_rfl
theorem r__law_right_9 {x1 : D} {x2 : D} {x3 : D} (h3 : x3 ∈ menu__law_right_3) {a3 b3 c3 : Int} : n__law_right_9 [some (.cel 0), some (x1), some (x2), some (.lst [.non, .int 0, .tup [], .lst [.int 0], .tup [.int 1, .int 0], .tup [.int 0, .int 0], .tup [.int 2], .tup [.int (-1)], .tup [.int 0, .bl true], .str "0", .tup [.non], .dct0, .tup [.int 0, .int 1000000000000000000000000000000000000000000000000000000000000]]), some (x3), some (.tup [.str "+XZ", .str "+ZX"]), some (.cel 1), some (.lst [.str "operator", .str "operator", .str "operator", .str "operation", .str "fine", .str "operator", .str "operator", .str "operation", .str "fine", .str "operator", .str "operator", .str "operation", .str "fine", .str "operator", .str "operator", .str "operation", .str "fine"]), some (.fn 36), none, none] [d3 a3 b3 c3, O.lst [.tup [.str "refused", .str "operator"], .tup [.str "refused", .str "operator"], .tup [.str "refused", .str "operator"], .tup [.str "refused", .str "operation"], .tup [.str "fine"], .tup [.str "refused", .str "operator"], .tup [.str "refused", .str "operator"], .tup [.str "refused", .str "operation"], .tup [.str "fine"], .tup [.str "refused", .str "operator"], .tup [.str "refused", .str "operator"], .tup [.str "refused", .str "operation"], .tup [.str "fine"], .tup [.str "refused", .str "operator"], .tup [.str "refused", .str "operator"], .tup [.str "refused", .str "operation"], .tup [.str "fine"], .tup [.str "refused", .str "operation"], .tup [.str "refused", .str "operation"], .tup [.str "refused", .str "operator"]]] = .nx [some (.cel 0), some (x1), some (x2), some (.lst [.non, .int 0, .tup [], .lst [.int 0], .tup [.int 1, .int 0], .tup [.int 0, .int 0], .tup [.int 2], .tup [.int (-1)], .tup [.int 0, .bl true], .str "0", .tup [.non], .dct0, .tup [.int 0, .int 1000000000000000000000000000000000000000000000000000000000000]]), some (x3), some (.tup [.str "+XZ", .str "+ZX"]), some (.cel 1), some (.lst [.str "operator", .str "operator", .str "operator", .str "operation", .str "fine", .str "operator", .str "operator", .str "operation", .str "fine", .str "operator", .str "operator", .str "operation", .str "fine", .str "operator", .str "operator", .str "operation", .str "fine"]), some (.fn 36), none, none] [d3 a3 b3 c3, O.lst [.tup [.str "refused", .str "operator"], .tup [.str "refused", .str "operator"], .tup [.str "refused", .str "operator"], .tup [.str "refused", .str "operation"], .tup [.str "fine"], .tup [.str "refused", .str "operator"], .tup [.str "refused", .str "operator"], .tup [.str "refused", .str "operation"], .tup [.str "fine"], .tup [.str "refused", .str "operator"], .tup [.str "refused", .str "operator"], .tup [.str "refused", .str "operation"], .tup [.str "fine"], .tup [.str "refused", .str "operator"], .tup [.str "refused", .str "operator"], .tup [.str "refused", .str "operation"], .tup [.str "fine"], .tup [.str "refused", .str "operation"], .tup [.str "refused", .str "operation"], .tup [.str "refused", .str "operator"], .tup [.str "refused", .str "operation"]]] := by
  simp only [menu__law_right_3, List.mem_cons, List.not_mem_nil, or_false] at h3
  rcases h3 with rfl | rfl | rfl | rfl | rfl | rfl | rfl | rfl | rfl | rfl | rfl | rfl | rfl <;> kernel_rfl
theorem r__law_right_10 {x1 : D} {x2 : D} {x3 : D}  {a3 b3 c3 : Int} : n__law_right_10 [some (.cel 0), some (x1), some (x2), some (.lst [.non, .int 0, .tup [], .lst [.int 0], .tup [.int 1, .int 0], .tup [.int 0, .int 0], .tup [.int 2], .tup [.int (-1)], .tup [.int 0, .bl true], .str "0", .tup [.non], .dct0, .tup [.int 0, .int 1000000000000000000000000000000000000000000000000000000000000]]), some (x3), some (.tup [.str "+XZ", .str "+ZX"]), some (.cel 1), some (.lst [.str "operator", .str "operator", .str "operator", .str "operation", .str "fine", .str "operator", .str "operator", .str "operation", .str "fine", .str "operator", .str "operator", .str "operation", .str "fine", .str "operator", .str "operator", .str "operation", .str "fine"]), some (.fn 36), none, none] [d3 a3 b3 c3, O.lst [.tup [.str "refused", .str "operator"], .tup [.str "refused", .str "operator"], .tup [.str "refused", .str "operator"], .tup [.str "refused", .str "operation"], .tup [.str "fine"], .tup [.str "refused", .str "operator"], .tup [.str "refused", .str "operator"], .tup [.str "refused", .str "operation"], .tup [.str "fine"], .tup [.str "refused", .str "operator"], .tup [.str "refused", .str "operator"], .tup [.str "refused", .str "operation"], .tup [.str "fine"], .tup [.str "refused", .str "operator"], .tup [.str "refused", .str "operator"], .tup [.str "refused", .str "operation"], .tup [.str "fine"], .tup [.str "refused", .str "operation"], .tup [.str "refused", .str "operation"], .tup [.str "refused", .str "operator"], .tup [.str "refused", .str "operation"]]] = .nx [some (.cel 0), some (x1), some (x2), some (.lst [.non, .int 0, .tup [], .lst [.int 0], .tup [.int 1, .int 0], .tup [.int 0, .int 0], .tup [.int 2], .tup [.int (-1)], .tup [.int 0, .bl true], .str "0", .tup [.non], .dct0, .tup [.int 0, .int 1000000000000000000000000000000000000000000000000000000000000]]), some (x3), some (.tup [.str "+XZ", .str "+ZX"]), some (.cel 1), some (.lst [.str "operator", .str "operator", .str "operator", .str "operation", .str "fine", .str "operator", .str "operator", .str "operation", .str "fine", .str "operator", .str "operator", .str "operation", .str "fine", .str "operator", .str "operator", .str "operation", .str "fine"]), some (.fn 36), none, none] [d3 a3 b3 c3, O.lst [.tup [.str "refused", .str "operator"], .tup [.str "refused", .str "operator"], .tup [.str "refused", .str "operator"], .tup [.str "refused", .str "operation"], .tup [.str "fine"], .tup [.str "refused", .str "operator"], .tup [.str "refused", .str "operator"], .tup [.str "refused", .str "operation"], .tup [.str "fine"], .tup [.str "refused", .str "operator"], .tup [.str "refused", .str "operator"], .tup [.str "refused", .str "operation"], .tup [.str "fine"], .tup [.str "refused", .str "operator"], .tup [.str "refused", .str "operator"], .tup [.str "refused", .str "operation"], .tup [.str "fine"], .tup [.str "refused", .str "operation"], .tup [.str "refused", .str "operation"], .tup [.str "refused", .str "operator"], .tup [.str "refused", .str "operation"], .tup [.str "fine"]]] := by
  kernel_rfl
theorem r__law_right_11 {x1 : D} {x2 : D} {x3 : D}  {a3 b3 c3 : Int} : n__law_right_11 [some (.cel 0), some (x1), some (x2), some (.lst [.non, .int 0, .tup [], .lst [.int 0], .tup [.int 1, .int 0], .tup [.int 0, .int 0], .tup [.int 2], .tup [.int (-1)], .tup [.int 0, .bl true], .str "0", .tup [.non], .dct0, .tup [.int 0, .int 1000000000000000000000000000000000000000000000000000000000000]]), some (x3), some (.tup [.str "+XZ", .str "+ZX"]), some (.cel 1), some (.lst [.str "operator", .str "operator", .str "operator", .str "operation", .str "fine", .str "operator", .str "operator", .str "operation", .str "fine", .str "operator", .str "operator", .str "operation", .str "fine", .str "operator", .str "operator", .str "operation", .str "fine"]), some (.fn 36), none, none] [d3 a3 b3 c3, O.lst [.tup [.str "refused", .str "operator"], .tup [.str "refused", .str "operator"], .tup [.str "refused", .str "operator"], .tup [.str "refused", .str "operation"], .tup [.str "fine"], .tup [.str "refused", .str "operator"], .tup [.str "refused", .str "operator"], .tup [.str "refused", .str "operation"], .tup [.str "fine"], .tup [.str "refused", .str "operator"], .tup [.str "refused", .str "operator"], .tup [.str "refused", .str "operation"], .tup [.str "fine"], .tup [.str "refused", .str "operator"], .tup [.str "refused", .str "operator"], .tup [.str "refused", .str "operation"], .tup [.str "fine"], .tup [.str "refused", .str "operation"], .tup [.str "refused", .str "operation"], .tup [.str "refused", .str "operator"], .tup [.str "refused", .str "operation"], .tup [.str "fine"]]] = .nx [some (.cel 0), some (x1), some (x2), some (.lst [.non, .int 0, .tup [], .lst [.int 0], .tup [.int 1, .int 0], .tup [.int 0, .int 0], .tup [.int 2], .tup [.int (-1)], .tup [.int 0, .bl true], .str "0", .tup [.non], .dct0, .tup [.int 0, .int 1000000000000000000000000000000000000000000000000000000000000]]), some (x3), some (.tup [.str "+XZ", .str "+ZX"]), some (.cel 1), some (.lst [.str "operator", .str "operator", .str "operator", .str "operation", .str "fine", .str "operator", .str "operator", .str "operation", .str "fine", .str "operator", .str "operator", .str "operation", .str "fine", .str "operator", .str "operator", .str "operation", .str "fine", .str "operation", .str "operation", .str "operator", .str "operation", .str "fine"]), some (.fn 36), none, none] [d3 a3 b3 c3, O.lst [.tup [.str "refused", .str "operator"], .tup [.str "refused", .str "operator"], .tup [.str "refused", .str "operator"], .tup [.str "refused", .str "operation"], .tup [.str "fine"], .tup [.str "refused", .str "operator"], .tup [.str "refused", .str "operator"], .tup [.str "refused", .str "operation"], .tup [.str "fine"], .tup [.str "refused", .str "operator"], .tup [.str "refused", .str "operator"], .tup [.str "refused", .str "operation"], .tup [.str "fine"], .tup [.str "refused", .str "operator"], .tup [.str "refused", .str "operator"], .tup [.str "refused", .str "operation"], .tup [.str "fine"], .tup [.str "refused", .str "operation"], .tup [.str "refused", .str "operation"], .tup [.str "refused", .str "operator"], .tup [.str "refused", .str "operation"], .tup [.str "fine"]]] := by
  kernel_rfl
theorem r__law_right_12 {x1 : D} {x3 : D} {x2 : D} (h2 : x2 ∈ menu__law_right_2) {a3 b3 c3 : Int} : n__law_right_12 [some (.cel 0), some (x1), some (x2), some (.lst [.non, .int 0, .tup [], .lst [.int 0], .tup [.int 1, .int 0], .tup [.int 0, .int 0], .tup [.int 2], .tup [.int (-1)], .tup [.int 0, .bl true], .str "0", .tup [.non], .dct0, .tup [.int 0, .int 1000000000000000000000000000000000000000000000000000000000000]]), some (x3), some (.tup [.str "+XZ", .str "+ZX"]), some (.cel 1), some (.lst [.str "operator", .str "operator", .str "operator", .str "operation", .str "fine", .str "operator", .str "operator", .str "operation", .str "fine", .str "operator", .str "operator", .str "operation", .str "fine", .str "operator", .str "operator", .str "operation", .str "fine", .str "operation", .str "operation", .str "operator", .str "operation", .str "fine"]), some (.fn 36), none, none] [d3 a3 b3 c3, O.lst [.tup [.str "refused", .str "operator"], .tup [.str "refused", .str "operator"], .tup [.str "refused", .str "operator"], .tup [.str "refused", .str "operation"], .tup [.str "fine"], .tup [.str "refused", .str "operator"], .tup [.str "refused", .str "operator"], .tup [.str "refused", .str "operation"], .tup [.str "fine"], .tup [.str "refused", .str "operator"], .tup [.str "refused", .str "operator"], .tup [.str "refused", .str "operation"], .tup [.str "fine"], .tup [.str "refused", .str "operator"], .tup [.str "refused", .str "operator"], .tup [.str "refused", .str "operation"], .tup [.str "fine"], .tup [.str "refused", .str "operation"], .tup [.str "refused", .str "operation"], .tup [.str "refused", .str "operator"], .tup [.str "refused", .str "operation"], .tup [.str "fine"]]] = .nx [some (.cel 0), some (x1), some (x2), some (.lst [.non, .int 0, .tup [], .lst [.int 0], .tup [.int 1, .int 0], .tup [.int 0, .int 0], .tup [.int 2], .tup [.int (-1)], .tup [.int 0, .bl true], .str "0", .tup [.non], .dct0, .tup [.int 0, .int 1000000000000000000000000000000000000000000000000000000000000]]), some (x3), some (.tup [.str "+XZ", .str "+ZX"]), some (.cel 1), some (.lst [.str "operator", .str "operator", .str "operator", .str "operation", .str "fine", .str "operator", .str "operator", .str "operation", .str "fine", .str "operator", .str "operator", .str "operation", .str "fine", .str "operator", .str "operator", .str "operation", .str "fine", .str "operation", .str "operation", .str "operator", .str "operation", .str "fine", .str "operator", .str "operator", .str "operation", .str "operation", .str "fine", .str "operator", .str "operator", .str "operation", .str "operation", .str "fine"]), some (.lam 0), none, none] [d3 a3 b3 c3, O.lst [.tup [.str "refused", .str "operator"], .tup [.str "refused", .str "operator"], .tup [.str "refused", .str "operator"], .tup [.str "refused", .str "operation"], .tup [.str "fine"], .tup [.str "refused", .str "operator"], .tup [.str "refused", .str "operator"], .tup [.str "refused", .str "operation"], .tup [.str "fine"], .tup [.str "refused", .str "operator"], .tup [.str "refused", .str "operator"], .tup [.str "refused", .str "operation"], .tup [.str "fine"], .tup [.str "refused", .str "operator"], .tup [.str "refused", .str "operator"], .tup [.str "refused", .str "operation"], .tup [.str "fine"], .tup [.str "refused", .str "operation"], .tup [.str "refused", .str "operation"], .tup [.str "refused", .str "operator"], .tup [.str "refused", .str "operation"], .tup [.str "fine"], .tup [.str "refused", .str "operator"], .tup [.str "refused", .str "operator"], .tup [.str "refused", .str "operation"], .tup [.str "refused", .str "operation"], .tup [.str "fine"], .tup [.str "refused", .str "operator"], .tup [.str "refused", .str "operator"], .tup [.str "refused", .str "operation"], .tup [.str "refused", .str "operation"], .tup [.str "fine"]]] := by
  simp only [menu__law_right_2, List.mem_cons, List.not_mem_nil, or_false] at h2
  rcases h2 with rfl | rfl | rfl | rfl | rfl | rfl | rfl | rfl | rfl | rfl | rfl | rfl <;> kernel_rfl
theorem nc19__law_right_4 (x1 : D) (h1 : x1 ∈ menu__law_right_1) : (menu__law_right_4 x1).all (noC 19) = true := by
  simp only [menu__law_right_1, List.mem_cons, List.not_mem_nil, or_false] at h1
  rcases h1 with rfl | rfl | rfl | rfl | rfl | rfl | rfl | rfl | rfl | rfl | rfl | rfl | rfl | rfl | rfl <;> kernel_rfl
theorem nc20__law_right_4 (x1 : D) (h1 : x1 ∈ menu__law_right_1) : (menu__law_right_4 x1).all (noC 20) = true := by
  simp only [menu__law_right_1, List.mem_cons, List.not_mem_nil, or_false] at h1
  rcases h1 with rfl | rfl | rfl | rfl | rfl | rfl | rfl | rfl | rfl | rfl | rfl | rfl | rfl | rfl | rfl <;> kernel_rfl
theorem ar__law_right_4 {x1 : D} {x2 : D} {x3 : D} {a3 b3 c3 : Int} : (dCons (dVar 0) (dCons (dLst (dCons (dC .non) (dCons (dC (.int 0)) (dCons (dTup dNil) (dCons (dC (.str "led")) (dCons (dTup (dCons (dC (.str "led")) dNil)) (dCons (dTup (dCons (dC (.str "led")) (dCons (dC (.int 5)) dNil))) (dCons (dTup (dCons (dC (.str "led")) (dCons (dTup (dCons (dVar 1) dNil)) dNil))) (dCons (dTup (dCons (dC (.str "pair")) (dCons (dC (.int 0)) dNil))) (dCons (dTup (dCons (dC (.str "pair")) (dCons (dC .non) (dCons (dC (.int 1)) dNil)))) (dCons (dTup (dCons (dC (.str "lot")) (dCons (dC (.int 0)) dNil))) (dCons dDct0 (dCons (dTup (dCons (dC (.str "led")) (dCons (dTup (dCons (dC (.str "+X")) dNil)) dNil))) dNil))))))))))))) dNil)) [some (.cel 0), some (x1), some (x2), some (.lst [.non, .int 0, .tup [], .lst [.int 0], .tup [.int 1, .int 0], .tup [.int 0, .int 0], .tup [.int 2], .tup [.int (-1)], .tup [.int 0, .bl true], .str "0", .tup [.non], .dct0, .tup [.int 0, .int 1000000000000000000000000000000000000000000000000000000000000]]), some (x3), some (.tup [.str "+XZ", .str "+ZX"]), some (.cel 1), some (.lst [.str "operator", .str "operator", .str "operator", .str "operation", .str "fine", .str "operator", .str "operator", .str "operation", .str "fine", .str "operator", .str "operator", .str "operation", .str "fine", .str "operator", .str "operator", .str "operation", .str "fine", .str "operation", .str "operation", .str "operator", .str "operation", .str "fine", .str "operator", .str "operator", .str "operation", .str "operation", .str "fine", .str "operator", .str "operator", .str "operation", .str "operation", .str "fine"]), some (.lam 0), none, none] [d3 a3 b3 c3, O.lst [.tup [.str "refused", .str "operator"], .tup [.str "refused", .str "operator"], .tup [.str "refused", .str "operator"], .tup [.str "refused", .str "operation"], .tup [.str "fine"], .tup [.str "refused", .str "operator"], .tup [.str "refused", .str "operator"], .tup [.str "refused", .str "operation"], .tup [.str "fine"], .tup [.str "refused", .str "operator"], .tup [.str "refused", .str "operator"], .tup [.str "refused", .str "operation"], .tup [.str "fine"], .tup [.str "refused", .str "operator"], .tup [.str "refused", .str "operator"], .tup [.str "refused", .str "operation"], .tup [.str "fine"], .tup [.str "refused", .str "operation"], .tup [.str "refused", .str "operation"], .tup [.str "refused", .str "operator"], .tup [.str "refused", .str "operation"], .tup [.str "fine"], .tup [.str "refused", .str "operator"], .tup [.str "refused", .str "operator"], .tup [.str "refused", .str "operation"], .tup [.str "refused", .str "operation"], .tup [.str "fine"], .tup [.str "refused", .str "operator"], .tup [.str "refused", .str "operator"], .tup [.str "refused", .str "operation"], .tup [.str "refused", .str "operation"], .tup [.str "fine"]]] = .ok [.cel 0, .lst (menu__law_right_4 x1)] [d3 a3 b3 c3, O.lst [.tup [.str "refused", .str "operator"], .tup [.str "refused", .str "operator"], .tup [.str "refused", .str "operator"], .tup [.str "refused", .str "operation"], .tup [.str "fine"], .tup [.str "refused", .str "operator"], .tup [.str "refused", .str "operator"], .tup [.str "refused", .str "operation"], .tup [.str "fine"], .tup [.str "refused", .str "operator"], .tup [.str "refused", .str "operator"], .tup [.str "refused", .str "operation"], .tup [.str "fine"], .tup [.str "refused", .str "operator"], .tup [.str "refused", .str "operator"], .tup [.str "refused", .str "operation"], .tup [.str "fine"], .tup [.str "refused", .str "operation"], .tup [.str "refused", .str "operation"], .tup [.str "refused", .str "operator"], .tup [.str "refused", .str "operation"], .tup [.str "fine"], .tup [.str "refused", .str "operator"], .tup [.str "refused", .str "operator"], .tup [.str "refused", .str "operation"], .tup [.str "refused", .str "operation"], .tup [.str "fine"], .tup [.str "refused", .str "operator"], .tup [.str "refused", .str "operator"], .tup [.str "refused", .str "operation"], .tup [.str "refused", .str "operation"], .tup [.str "fine"]]] := by kernel_rfl
theorem r__law_right_14 {x2 : D} {x3 : D} {x1 : D} (h1 : x1 ∈ menu__law_right_1) {x4 : D} (h4 : x4 ∈ menu__law_right_4 x1) {a4 b4 c4 : Int} : n__law_right_14 [some (.cel 0), some (x1), some (x2), some (.lst [.non, .int 0, .tup [], .lst [.int 0], .tup [.int 1, .int 0], .tup [.int 0, .int 0], .tup [.int 2], .tup [.int (-1)], .tup [.int 0, .bl true], .str "0", .tup [.non], .dct0, .tup [.int 0, .int 1000000000000000000000000000000000000000000000000000000000000]]), some (x3), some (.tup [.str "+XZ", .str "+ZX"]), some (.cel 1), some (.lst [.str "operator", .str "operator", .str "operator", .str "operation", .str "fine", .str "operator", .str "operator", .str "operation", .str "fine", .str "operator", .str "operator", .str "operation", .str "fine", .str "operator", .str "operator", .str "operation", .str "fine", .str "operation", .str "operation", .str "operator", .str "operation", .str "fine", .str "operator", .str "operator", .str "operation", .str "operation", .str "fine", .str "operator", .str "operator", .str "operation", .str "operation", .str "fine"]), some (.lam 0), some (x4), none] [d3 a4 b4 c4, O.lst [.tup [.str "refused", .str "operator"], .tup [.str "refused", .str "operator"], .tup [.str "refused", .str "operator"], .tup [.str "refused", .str "operation"], .tup [.str "fine"], .tup [.str "refused", .str "operator"], .tup [.str "refused", .str "operator"], .tup [.str "refused", .str "operation"], .tup [.str "fine"], .tup [.str "refused", .str "operator"], .tup [.str "refused", .str "operator"], .tup [.str "refused", .str "operation"], .tup [.str "fine"], .tup [.str "refused", .str "operator"], .tup [.str "refused", .str "operator"], .tup [.str "refused", .str "operation"], .tup [.str "fine"], .tup [.str "refused", .str "operation"], .tup [.str "refused", .str "operation"], .tup [.str "refused", .str "operator"], .tup [.str "refused", .str "operation"], .tup [.str "fine"], .tup [.str "refused", .str "operator"], .tup [.str "refused", .str "operator"], .tup [.str "refused", .str "operation"], .tup [.str "refused", .str "operation"], .tup [.str "fine"], .tup [.str "refused", .str "operator"], .tup [.str "refused", .str "operator"], .tup [.str "refused", .str "operation"], .tup [.str "refused", .str "operation"], .tup [.str "fine"]]] = .nx [some (.cel 0), some (x1), some (x2), some (.lst [.non, .int 0, .tup [], .lst [.int 0], .tup [.int 1, .int 0], .tup [.int 0, .int 0], .tup [.int 2], .tup [.int (-1)], .tup [.int 0, .bl true], .str "0", .tup [.non], .dct0, .tup [.int 0, .int 1000000000000000000000000000000000000000000000000000000000000]]), some (x3), some (.tup [.str "+XZ", .str "+ZX"]), some (.cel 1), some (.lst [.str "operator", .str "operator", .str "operator", .str "operation", .str "fine", .str "operator", .str "operator", .str "operation", .str "fine", .str "operator", .str "operator", .str "operation", .str "fine", .str "operator", .str "operator", .str "operation", .str "fine", .str "operation", .str "operation", .str "operator", .str "operation", .str "fine", .str "operator", .str "operator", .str "operation", .str "operation", .str "fine", .str "operator", .str "operator", .str "operation", .str "operation", .str "fine"]), some (.lam 0), some (x4), none] [d3 a4 b4 c4, O.lst [.tup [.str "refused", .str "operator"], .tup [.str "refused", .str "operator"], .tup [.str "refused", .str "operator"], .tup [.str "refused", .str "operation"], .tup [.str "fine"], .tup [.str "refused", .str "operator"], .tup [.str "refused", .str "operator"], .tup [.str "refused", .str "operation"], .tup [.str "fine"], .tup [.str "refused", .str "operator"], .tup [.str "refused", .str "operator"], .tup [.str "refused", .str "operation"], .tup [.str "fine"], .tup [.str "refused", .str "operator"], .tup [.str "refused", .str "operator"], .tup [.str "refused", .str "operation"], .tup [.str "fine"], .tup [.str "refused", .str "operation"], .tup [.str "refused", .str "operation"], .tup [.str "refused", .str "operator"], .tup [.str "refused", .str "operation"], .tup [.str "fine"], .tup [.str "refused", .str "operator"], .tup [.str "refused", .str "operator"], .tup [.str "refused", .str "operation"], .tup [.str "refused", .str "operation"], .tup [.str "fine"], .tup [.str "refused", .str "operator"], .tup [.str "refused", .str "operator"], .tup [.str "refused", .str "operation"], .tup [.str "refused", .str "operation"], .tup [.str "fine"]]] := by
  simp only [menu__law_right_1, List.mem_cons, List.not_mem_nil, or_false] at h1
  simp only [menu__law_right_4, List.mem_cons, List.not_mem_nil, or_false] at h4
  rcases h1 with rfl | rfl | rfl | rfl | rfl | rfl | rfl | rfl | rfl | rfl | rfl | rfl | rfl | rfl | rfl <;> rcases h4 with rfl | rfl | rfl | rfl | rfl | rfl | rfl | rfl | rfl | rfl | rfl | rfl <;> kernel_rfl
theorem r__law_right_15 {x1 : D} {x2 : D} {x3 : D} {x4 : D}  {a4 b4 c4 : Int} : n__law_right_15 [some (.cel 0), some (x1), some (x2), some (.lst [.non, .int 0, .tup [], .lst [.int 0], .tup [.int 1, .int 0], .tup [.int 0, .int 0], .tup [.int 2], .tup [.int (-1)], .tup [.int 0, .bl true], .str "0", .tup [.non], .dct0, .tup [.int 0, .int 1000000000000000000000000000000000000000000000000000000000000]]), some (x3), some (.tup [.str "+XZ", .str "+ZX"]), some (.cel 1), some (.lst [.str "operator", .str "operator", .str "operator", .str "operation", .str "fine", .str "operator", .str "operator", .str "operation", .str "fine", .str "operator", .str "operator", .str "operation", .str "fine", .str "operator", .str "operator", .str "operation", .str "fine", .str "operation", .str "operation", .str "operator", .str "operation", .str "fine", .str "operator", .str "operator", .str "operation", .str "operation", .str "fine", .str "operator", .str "operator", .str "operation", .str "operation", .str "fine"]), some (.lam 0), some (x4), none] [d3 a4 b4 c4, O.lst [.tup [.str "refused", .str "operator"], .tup [.str "refused", .str "operator"], .tup [.str "refused", .str "operator"], .tup [.str "refused", .str "operation"], .tup [.str "fine"], .tup [.str "refused", .str "operator"], .tup [.str "refused", .str "operator"], .tup [.str "refused", .str "operation"], .tup [.str "fine"], .tup [.str "refused", .str "operator"], .tup [.str "refused", .str "operator"], .tup [.str "refused", .str "operation"], .tup [.str "fine"], .tup [.str "refused", .str "operator"], .tup [.str "refused", .str "operator"], .tup [.str "refused", .str "operation"], .tup [.str "fine"], .tup [.str "refused", .str "operation"], .tup [.str "refused", .str "operation"], .tup [.str "refused", .str "operator"], .tup [.str "refused", .str "operation"], .tup [.str "fine"], .tup [.str "refused", .str "operator"], .tup [.str "refused", .str "operator"], .tup [.str "refused", .str "operation"], .tup [.str "refused", .str "operation"], .tup [.str "fine"], .tup [.str "refused", .str "operator"], .tup [.str "refused", .str "operator"], .tup [.str "refused", .str "operation"], .tup [.str "refused", .str "operation"], .tup [.str "fine"]]] = .rt (.bl true) [d3 a4 b4 c4, O.lst [.tup [.str "refused", .str "operator"], .tup [.str "refused", .str "operator"], .tup [.str "refused", .str "operator"], .tup [.str "refused", .str "operation"], .tup [.str "fine"], .tup [.str "refused", .str "operator"], .tup [.str "refused", .str "operator"], .tup [.str "refused", .str "operation"], .tup [.str "fine"], .tup [.str "refused", .str "operator"], .tup [.str "refused", .str "operator"], .tup [.str "refused", .str "operation"], .tup [.str "fine"], .tup [.str "refused", .str "operator"], .tup [.str "refused", .str "operator"], .tup [.str "refused", .str "operation"], .tup [.str "fine"], .tup [.str "refused", .str "operation"], .tup [.str "refused", .str "operation"], .tup [.str "refused", .str "operator"], .tup [.str "refused", .str "operation"], .tup [.str "fine"], .tup [.str "refused", .str "operator"], .tup [.str "refused", .str "operator"], .tup [.str "refused", .str "operation"], .tup [.str "refused", .str "operation"], .tup [.str "fine"], .tup [.str "refused", .str "operator"], .tup [.str "refused", .str "operator"], .tup [.str "refused", .str "operation"], .tup [.str "refused", .str "operation"], .tup [.str "fine"]]] := by
  kernel_rfl
theorem good__law_right {a0 b0 c0 : Int} {N : Nat} (ha0 : 0 ≤ a0) (hc0 : 0 ≤ c0) (hm0 : c0 ≤ N) (hN : N < 100000) : ∃ a b c : Int, 0 ≤ a ∧ 0 ≤ c ∧ c ≤ ((N + 4 : Nat) : Int) ∧ c0__law_right [.cel 0] [d3 a0 b0 c0] = .ok (.bl true) [d3 a b c] := by
  suffices main : Runs (n__law_right [some (.cel 0), none, none, none, none, none, none, none, none, none, none] [d3 a0 b0 c0]) fun d s => d = .bl true ∧ ∃ a b c : Int, (0 ≤ a ∧ 0 ≤ c ∧ c ≤ ((N + 4 : Nat) : Int)) ∧ popR 1 (.ok d s) = .ok (.bl true) [d3 a b c] by
    obtain ⟨d, s, e, _, a, b, c, h, hp⟩ := main
    refine ⟨a, b, c, h.1, h.2.1, h.2.2, ?_⟩
    show popR 1 (match n__law_right [some (.cel 0), none, none, none, none, none, none, none, none, none, none] [d3 a0 b0 c0] with
      | .nx _ st2 => R.ok D.non st2
      | .rt d st2 => .ok d st2
      | .ex x _ st2 => .ex x st2
      | _ => .no) = _
    rw [e]
    exact hp
  unfold n__law_right
  obtain ⟨x1, a1, b1, c1, hx1, ha1, hc1, hm1, e1⟩ := pick_at (xs := menu__law_right_1) (b := b0) (tl := []) ha0 hc0 hm0 (by omega) (by exact List.cons_ne_nil _ _) (by show 15 < 1000; decide) rfl (nc19__law_right_1 ) (nc20__law_right_1 )
  refine Den.step (env1 := [some (.cel 0), some (x1), none, none, none, none, none, none, none, none, none]) (st1 := [d3 a1 b1 c1]) (asg_nm (fn_ev ar__law_right_1 e1)) ?_
  obtain ⟨x2, a2, b2, c2, hx2, ha2, hc2, hm2, e2⟩ := pick_at (xs := menu__law_right_2) (b := b1) (tl := []) ha1 hc1 hm1 (by omega) (by exact List.cons_ne_nil _ _) (by show 12 < 1000; decide) rfl (nc19__law_right_2 ) (nc20__law_right_2 )
  refine Den.step (env1 := [some (.cel 0), some (x1), some (x2), none, none, none, none, none, none, none, none]) (st1 := [d3 a2 b2 c2]) (asg_nm (fn_ev ar__law_right_2 e2)) ?_
  refine Den.step (env1 := [some (.cel 0), some (x1), some (x2), some (.lst [.non, .int 0, .tup [], .lst [.int 0], .tup [.int 1, .int 0], .tup [.int 0, .int 0], .tup [.int 2], .tup [.int (-1)], .tup [.int 0, .bl true], .str "0", .tup [.non], .dct0, .tup [.int 0, .int 1000000000000000000000000000000000000000000000000000000000000]]), none, none, none, none, none, none, none]) (st1 := [d3 a2 b2 c2]) (r__law_right_2 ) ?_
  obtain ⟨x3, a3, b3, c3, hx3, ha3, hc3, hm3, e3⟩ := pick_at (xs := menu__law_right_3) (b := b2) (tl := []) ha2 hc2 hm2 (by omega) (by exact List.cons_ne_nil _ _) (by show 13 < 1000; decide) rfl (nc19__law_right_3 ) (nc20__law_right_3 )
  refine Den.step (env1 := [some (.cel 0), some (x1), some (x2), some (.lst [.non, .int 0, .tup [], .lst [.int 0], .tup [.int 1, .int 0], .tup [.int 0, .int 0], .tup [.int 2], .tup [.int (-1)], .tup [.int 0, .bl true], .str "0", .tup [.non], .dct0, .tup [.int 0, .int 1000000000000000000000000000000000000000000000000000000000000]]), some (x3), some (.tup [.str "+XZ", .str "+ZX"]), none, none, none, none, none]) (st1 := [d3 a3 b3 c3]) (tup_evA (v := x3) (w := .tup [.str "+XZ", .str "+ZX"]) (fn_ev ar__law_right_3 e3) va__law_right_3) ?_
  refine Den.step (env1 := [some (.cel 0), some (x1), some (x2), some (.lst [.non, .int 0, .tup [], .lst [.int 0], .tup [.int 1, .int 0], .tup [.int 0, .int 0], .tup [.int 2], .tup [.int (-1)], .tup [.int 0, .bl true], .str "0", .tup [.non], .dct0, .tup [.int 0, .int 1000000000000000000000000000000000000000000000000000000000000]]), some (x3), some (.tup [.str "+XZ", .str "+ZX"]), some (.cel 1), some (.lst [.str "operator"]), none, none, none]) (st1 := [d3 a3 b3 c3, O.lst [.tup [.str "refused", .str "operator"]]]) (r__law_right_4 hx1) ?_
  refine Den.step (env1 := [some (.cel 0), some (x1), some (x2), some (.lst [.non, .int 0, .tup [], .lst [.int 0], .tup [.int 1, .int 0], .tup [.int 0, .int 0], .tup [.int 2], .tup [.int (-1)], .tup [.int 0, .bl true], .str "0", .tup [.non], .dct0, .tup [.int 0, .int 1000000000000000000000000000000000000000000000000000000000000]]), some (x3), some (.tup [.str "+XZ", .str "+ZX"]), some (.cel 1), some (.lst [.str "operator", .str "operator", .str "operator", .str "operation", .str "fine", .str "operator", .str "operator", .str "operation", .str "fine", .str "operator", .str "operator", .str "operation", .str "fine", .str "operator", .str "operator", .str "operation", .str "fine"]), some (.fn 36), none, none]) (st1 := [d3 a3 b3 c3, O.lst [.tup [.str "refused", .str "operator"], .tup [.str "refused", .str "operator"], .tup [.str "refused", .str "operator"], .tup [.str "refused", .str "operation"], .tup [.str "fine"], .tup [.str "refused", .str "operator"], .tup [.str "refused", .str "operator"], .tup [.str "refused", .str "operation"], .tup [.str "fine"], .tup [.str "refused", .str "operator"], .tup [.str "refused", .str "operator"], .tup [.str "refused", .str "operation"], .tup [.str "fine"], .tup [.str "refused", .str "operator"], .tup [.str "refused", .str "operator"], .tup [.str "refused", .str "operation"], .tup [.str "fine"]]]) (r__law_right_5 hx1) ?_
  refine Den.step (env1 := [some (.cel 0), some (x1), some (x2), some (.lst [.non, .int 0, .tup [], .lst [.int 0], .tup [.int 1, .int 0], .tup [.int 0, .int 0], .tup [.int 2], .tup [.int (-1)], .tup [.int 0, .bl true], .str "0", .tup [.non], .dct0, .tup [.int 0, .int 1000000000000000000000000000000000000000000000000000000000000]]), some (x3), some (.tup [.str "+XZ", .str "+ZX"]), some (.cel 1), some (.lst [.str "operator", .str "operator", .str "operator", .str "operation", .str "fine", .str "operator", .str "operator", .str "operation", .str "fine", .str "operator", .str "operator", .str "operation", .str "fine", .str "operator", .str "operator", .str "operation", .str "fine"]), some (.fn 36), none, none]) (st1 := [d3 a3 b3 c3, O.lst [.tup [.str "refused", .str "operator"], .tup [.str "refused", .str "operator"], .tup [.str "refused", .str "operator"], .tup [.str "refused", .str "operation"], .tup [.str "fine"], .tup [.str "refused", .str "operator"], .tup [.str "refused", .str "operator"], .tup [.str "refused", .str "operation"], .tup [.str "fine"], .tup [.str "refused", .str "operator"], .tup [.str "refused", .str "operator"], .tup [.str "refused", .str "operation"], .tup [.str "fine"], .tup [.str "refused", .str "operator"], .tup [.str "refused", .str "operator"], .tup [.str "refused", .str "operation"], .tup [.str "fine"], .tup [.str "refused", .str "operation"]]]) (r__law_right_6 ) ?_
  refine Den.step (env1 := [some (.cel 0), some (x1), some (x2), some (.lst [.non, .int 0, .tup [], .lst [.int 0], .tup [.int 1, .int 0], .tup [.int 0, .int 0], .tup [.int 2], .tup [.int (-1)], .tup [.int 0, .bl true], .str "0", .tup [.non], .dct0, .tup [.int 0, .int 1000000000000000000000000000000000000000000000000000000000000]]), some (x3), some (.tup [.str "+XZ", .str "+ZX"]), some (.cel 1), some (.lst [.str "operator", .str "operator", .str "operator", .str "operation", .str "fine", .str "operator", .str "operator", .str "operation", .str "fine", .str "operator", .str "operator", .str "operation", .str "fine", .str "operator", .str "operator", .str "operation", .str "fine"]), some (.fn 36), none, none]) (st1 := [d3 a3 b3 c3, O.lst [.tup [.str "refused", .str "operator"], .tup [.str "refused", .str "operator"], .tup [.str "refused", .str "operator"], .tup [.str "refused", .str "operation"], .tup [.str "fine"], .tup [.str "refused", .str "operator"], .tup [.str "refused", .str "operator"], .tup [.str "refused", .str "operation"], .tup [.str "fine"], .tup [.str "refused", .str "operator"], .tup [.str "refused", .str "operator"], .tup [.str "refused", .str "operation"], .tup [.str "fine"], .tup [.str "refused", .str "operator"], .tup [.str "refused", .str "operator"], .tup [.str "refused", .str "operation"], .tup [.str "fine"], .tup [.str "refused", .str "operation"], .tup [.str "refused", .str "operation"]]]) (r__law_right_7 ) ?_
  refine Den.step (env1 := [some (.cel 0), some (x1), some (x2), some (.lst [.non, .int 0, .tup [], .lst [.int 0], .tup [.int 1, .int 0], .tup [.int 0, .int 0], .tup [.int 2], .tup [.int (-1)], .tup [.int 0, .bl true], .str "0", .tup [.non], .dct0, .tup [.int 0, .int 1000000000000000000000000000000000000000000000000000000000000]]), some (x3), some (.tup [.str "+XZ", .str "+ZX"]), some (.cel 1), some (.lst [.str "operator", .str "operator", .str "operator", .str "operation", .str "fine", .str "operator", .str "operator", .str "operation", .str "fine", .str "operator", .str "operator", .str "operation", .str "fine", .str "operator", .str "operator", .str "operation", .str "fine"]), some (.fn 36), none, none]) (st1 := [d3 a3 b3 c3, O.lst [.tup [.str "refused", .str "operator"], .tup [.str "refused", .str "operator"], .tup [.str "refused", .str "operator"], .tup [.str "refused", .str "operation"], .tup [.str "fine"], .tup [.str "refused", .str "operator"], .tup [.str "refused", .str "operator"], .tup [.str "refused", .str "operation"], .tup [.str "fine"], .tup [.str "refused", .str "operator"], .tup [.str "refused", .str "operator"], .tup [.str "refused", .str "operation"], .tup [.str "fine"], .tup [.str "refused", .str "operator"], .tup [.str "refused", .str "operator"], .tup [.str "refused", .str "operation"], .tup [.str "fine"], .tup [.str "refused", .str "operation"], .tup [.str "refused", .str "operation"], .tup [.str "refused", .str "operator"]]]) (r__law_right_8 hx2 hx3) ?_
  refine Den.step (env1 := [some (.cel 0), some (x1), some (x2), some (.lst [.non, .int 0, .tup [], .lst [.int 0], .tup [.int 1, .int 0], .tup [.int 0, .int 0], .tup [.int 2], .tup [.int (-1)], .tup [.int 0, .bl true], .str "0", .tup [.non], .dct0, .tup [.int 0, .int 1000000000000000000000000000000000000000000000000000000000000]]), some (x3), some (.tup [.str "+XZ", .str "+ZX"]), some (.cel 1), some (.lst [.str "operator", .str "operator", .str "operator", .str "operation", .str "fine", .str "operator", .str "operator", .str "operation", .str "fine", .str "operator", .str "operator", .str "operation", .str "fine", .str "operator", .str "operator", .str "operation", .str "fine"]), some (.fn 36), none, none]) (st1 := [d3 a3 b3 c3, O.lst [.tup [.str "refused", .str "operator"], .tup [.str "refused", .str "operator"], .tup [.str "refused", .str "operator"], .tup [.str "refused", .str "operation"], .tup [.str "fine"], .tup [.str "refused", .str "operator"], .tup [.str "refused", .str "operator"], .tup [.str "refused", .str "operation"], .tup [.str "fine"], .tup [.str "refused", .str "operator"], .tup [.str "refused", .str "operator"], .tup [.str "refused", .str "operation"], .tup [.str "fine"], .tup [.str "refused", .str "operator"], .tup [.str "refused", .str "operator"], .tup [.str "refused", .str "operation"], .tup [.str "fine"], .tup [.str "refused", .str "operation"], .tup [.str "refused", .str "operation"], .tup [.str "refused", .str "operator"], .tup [.str "refused", .str "operation"]]]) (r__law_right_9 hx3) ?_
  refine Den.step (env1 := [some (.cel 0), some (x1), some (x2), some (.lst [.non, .int 0, .tup [], .lst [.int 0], .tup [.int 1, .int 0], .tup [.int 0, .int 0], .tup [.int 2], .tup [.int (-1)], .tup [.int 0, .bl true], .str "0", .tup [.non], .dct0, .tup [.int 0, .int 1000000000000000000000000000000000000000000000000000000000000]]), some (x3), some (.tup [.str "+XZ", .str "+ZX"]), some (.cel 1), some (.lst [.str "operator", .str "operator", .str "operator", .str "operation", .str "fine", .str "operator", .str "operator", .str "operation", .str "fine", .str "operator", .str "operator", .str "operation", .str "fine", .str "operator", .str "operator", .str "operation", .str "fine"]), some (.fn 36), none, none]) (st1 := [d3 a3 b3 c3, O.lst [.tup [.str "refused", .str "operator"], .tup [.str "refused", .str "operator"], .tup [.str "refused", .str "operator"], .tup [.str "refused", .str "operation"], .tup [.str "fine"], .tup [.str "refused", .str "operator"], .tup [.str "refused", .str "operator"], .tup [.str "refused", .str "operation"], .tup [.str "fine"], .tup [.str "refused", .str "operator"], .tup [.str "refused", .str "operator"], .tup [.str "refused", .str "operation"], .tup [.str "fine"], .tup [.str "refused", .str "operator"], .tup [.str "refused", .str "operator"], .tup [.str "refused", .str "operation"], .tup [.str "fine"], .tup [.str "refused", .str "operation"], .tup [.str "refused", .str "operation"], .tup [.str "refused", .str "operator"], .tup [.str "refused", .str "operation"], .tup [.str "fine"]]]) (r__law_right_10 ) ?_
  refine Den.step (env1 := [some (.cel 0), some (x1), some (x2), some (.lst [.non, .int 0, .tup [], .lst [.int 0], .tup [.int 1, .int 0], .tup [.int 0, .int 0], .tup [.int 2], .tup [.int (-1)], .tup [.int 0, .bl true], .str "0", .tup [.non], .dct0, .tup [.int 0, .int 1000000000000000000000000000000000000000000000000000000000000]]), some (x3), some (.tup [.str "+XZ", .str "+ZX"]), some (.cel 1), some (.lst [.str "operator", .str "operator", .str "operator", .str "operation", .str "fine", .str "operator", .str "operator", .str "operation", .str "fine", .str "operator", .str "operator", .str "operation", .str "fine", .str "operator", .str "operator", .str "operation", .str "fine", .str "operation", .str "operation", .str "operator", .str "operation", .str "fine"]), some (.fn 36), none, none]) (st1 := [d3 a3 b3 c3, O.lst [.tup [.str "refused", .str "operator"], .tup [.str "refused", .str "operator"], .tup [.str "refused", .str "operator"], .tup [.str "refused", .str "operation"], .tup [.str "fine"], .tup [.str "refused", .str "operator"], .tup [.str "refused", .str "operator"], .tup [.str "refused", .str "operation"], .tup [.str "fine"], .tup [.str "refused", .str "operator"], .tup [.str "refused", .str "operator"], .tup [.str "refused", .str "operation"], .tup [.str "fine"], .tup [.str "refused", .str "operator"], .tup [.str "refused", .str "operator"], .tup [.str "refused", .str "operation"], .tup [.str "fine"], .tup [.str "refused", .str "operation"], .tup [.str "refused", .str "operation"], .tup [.str "refused", .str "operator"], .tup [.str "refused", .str "operation"], .tup [.str "fine"]]]) (r__law_right_11 ) ?_
  refine Den.step (env1 := [some (.cel 0), some (x1), some (x2), some (.lst [.non, .int 0, .tup [], .lst [.int 0], .tup [.int 1, .int 0], .tup [.int 0, .int 0], .tup [.int 2], .tup [.int (-1)], .tup [.int 0, .bl true], .str "0", .tup [.non], .dct0, .tup [.int 0, .int 1000000000000000000000000000000000000000000000000000000000000]]), some (x3), some (.tup [.str "+XZ", .str "+ZX"]), some (.cel 1), some (.lst [.str "operator", .str "operator", .str "operator", .str "operation", .str "fine", .str "operator", .str "operator", .str "operation", .str "fine", .str "operator", .str "operator", .str "operation", .str "fine", .str "operator", .str "operator", .str "operation", .str "fine", .str "operation", .str "operation", .str "operator", .str "operation", .str "fine", .str "operator", .str "operator", .str "operation", .str "operation", .str "fine", .str "operator", .str "operator", .str "operation", .str "operation", .str "fine"]), some (.lam 0), none, none]) (st1 := [d3 a3 b3 c3, O.lst [.tup [.str "refused", .str "operator"], .tup [.str "refused", .str "operator"], .tup [.str "refused", .str "operator"], .tup [.str "refused", .str "operation"], .tup [.str "fine"], .tup [.str "refused", .str "operator"], .tup [.str "refused", .str "operator"], .tup [.str "refused", .str "operation"], .tup [.str "fine"], .tup [.str "refused", .str "operator"], .tup [.str "refused", .str "operator"], .tup [.str "refused", .str "operation"], .tup [.str "fine"], .tup [.str "refused", .str "operator"], .tup [.str "refused", .str "operator"], .tup [.str "refused", .str "operation"], .tup [.str "fine"], .tup [.str "refused", .str "operation"], .tup [.str "refused", .str "operation"], .tup [.str "refused", .str "operator"], .tup [.str "refused", .str "operation"], .tup [.str "fine"], .tup [.str "refused", .str "operator"], .tup [.str "refused", .str "operator"], .tup [.str "refused", .str "operation"], .tup [.str "refused", .str "operation"], .tup [.str "fine"], .tup [.str "refused", .str "operator"], .tup [.str "refused", .str "operator"], .tup [.str "refused", .str "operation"], .tup [.str "refused", .str "operation"], .tup [.str "fine"]]]) (r__law_right_12 hx2) ?_
  obtain ⟨x4, a4, b4, c4, hx4, ha4, hc4, hm4, e4⟩ := pick_at (xs := menu__law_right_4 x1) (b := b3) (tl := [O.lst [.tup [.str "refused", .str "operator"], .tup [.str "refused", .str "operator"], .tup [.str "refused", .str "operator"], .tup [.str "refused", .str "operation"], .tup [.str "fine"], .tup [.str "refused", .str "operator"], .tup [.str "refused", .str "operator"], .tup [.str "refused", .str "operation"], .tup [.str "fine"], .tup [.str "refused", .str "operator"], .tup [.str "refused", .str "operator"], .tup [.str "refused", .str "operation"], .tup [.str "fine"], .tup [.str "refused", .str "operator"], .tup [.str "refused", .str "operator"], .tup [.str "refused", .str "operation"], .tup [.str "fine"], .tup [.str "refused", .str "operation"], .tup [.str "refused", .str "operation"], .tup [.str "refused", .str "operator"], .tup [.str "refused", .str "operation"], .tup [.str "fine"], .tup [.str "refused", .str "operator"], .tup [.str "refused", .str "operator"], .tup [.str "refused", .str "operation"], .tup [.str "refused", .str "operation"], .tup [.str "fine"], .tup [.str "refused", .str "operator"], .tup [.str "refused", .str "operator"], .tup [.str "refused", .str "operation"], .tup [.str "refused", .str "operation"], .tup [.str "fine"]]]) ha3 hc3 hm3 (by omega) (by exact List.cons_ne_nil _ _) (by show 12 < 1000; decide) rfl (nc19__law_right_4 x1 hx1) (nc20__law_right_4 x1 hx1)
  refine Den.step (env1 := [some (.cel 0), some (x1), some (x2), some (.lst [.non, .int 0, .tup [], .lst [.int 0], .tup [.int 1, .int 0], .tup [.int 0, .int 0], .tup [.int 2], .tup [.int (-1)], .tup [.int 0, .bl true], .str "0", .tup [.non], .dct0, .tup [.int 0, .int 1000000000000000000000000000000000000000000000000000000000000]]), some (x3), some (.tup [.str "+XZ", .str "+ZX"]), some (.cel 1), some (.lst [.str "operator", .str "operator", .str "operator", .str "operation", .str "fine", .str "operator", .str "operator", .str "operation", .str "fine", .str "operator", .str "operator", .str "operation", .str "fine", .str "operator", .str "operator", .str "operation", .str "fine", .str "operation", .str "operation", .str "operator", .str "operation", .str "fine", .str "operator", .str "operator", .str "operation", .str "operation", .str "fine", .str "operator", .str "operator", .str "operation", .str "operation", .str "fine"]), some (.lam 0), some (x4), none]) (st1 := [d3 a4 b4 c4, O.lst [.tup [.str "refused", .str "operator"], .tup [.str "refused", .str "operator"], .tup [.str "refused", .str "operator"], .tup [.str "refused", .str "operation"], .tup [.str "fine"], .tup [.str "refused", .str "operator"], .tup [.str "refused", .str "operator"], .tup [.str "refused", .str "operation"], .tup [.str "fine"], .tup [.str "refused", .str "operator"], .tup [.str "refused", .str "operator"], .tup [.str "refused", .str "operation"], .tup [.str "fine"], .tup [.str "refused", .str "operator"], .tup [.str "refused", .str "operator"], .tup [.str "refused", .str "operation"], .tup [.str "fine"], .tup [.str "refused", .str "operation"], .tup [.str "refused", .str "operation"], .tup [.str "refused", .str "operator"], .tup [.str "refused", .str "operation"], .tup [.str "fine"], .tup [.str "refused", .str "operator"], .tup [.str "refused", .str "operator"], .tup [.str "refused", .str "operation"], .tup [.str "refused", .str "operation"], .tup [.str "fine"], .tup [.str "refused", .str "operator"], .tup [.str "refused", .str "operator"], .tup [.str "refused", .str "operation"], .tup [.str "refused", .str "operation"], .tup [.str "fine"]]]) (asg_nm (fn_ev ar__law_right_4 e4)) ?_
  refine Den.step (env1 := [some (.cel 0), some (x1), some (x2), some (.lst [.non, .int 0, .tup [], .lst [.int 0], .tup [.int 1, .int 0], .tup [.int 0, .int 0], .tup [.int 2], .tup [.int (-1)], .tup [.int 0, .bl true], .str "0", .tup [.non], .dct0, .tup [.int 0, .int 1000000000000000000000000000000000000000000000000000000000000]]), some (x3), some (.tup [.str "+XZ", .str "+ZX"]), some (.cel 1), some (.lst [.str "operator", .str "operator", .str "operator", .str "operation", .str "fine", .str "operator", .str "operator", .str "operation", .str "fine", .str "operator", .str "operator", .str "operation", .str "fine", .str "operator", .str "operator", .str "operation", .str "fine", .str "operation", .str "operation", .str "operator", .str "operation", .str "fine", .str "operator", .str "operator", .str "operation", .str "operation", .str "fine", .str "operator", .str "operator", .str "operation", .str "operation", .str "fine"]), some (.lam 0), some (x4), none]) (st1 := [d3 a4 b4 c4, O.lst [.tup [.str "refused", .str "operator"], .tup [.str "refused", .str "operator"], .tup [.str "refused", .str "operator"], .tup [.str "refused", .str "operation"], .tup [.str "fine"], .tup [.str "refused", .str "operator"], .tup [.str "refused", .str "operator"], .tup [.str "refused", .str "operation"], .tup [.str "fine"], .tup [.str "refused", .str "operator"], .tup [.str "refused", .str "operator"], .tup [.str "refused", .str "operation"], .tup [.str "fine"], .tup [.str "refused", .str "operator"], .tup [.str "refused", .str "operator"], .tup [.str "refused", .str "operation"], .tup [.str "fine"], .tup [.str "refused", .str "operation"], .tup [.str "refused", .str "operation"], .tup [.str "refused", .str "operator"], .tup [.str "refused", .str "operation"], .tup [.str "fine"], .tup [.str "refused", .str "operator"], .tup [.str "refused", .str "operator"], .tup [.str "refused", .str "operation"], .tup [.str "refused", .str "operation"], .tup [.str "fine"], .tup [.str "refused", .str "operator"], .tup [.str "refused", .str "operator"], .tup [.str "refused", .str "operation"], .tup [.str "refused", .str "operation"], .tup [.str "fine"]]]) (r__law_right_14 hx1 hx4) ?_
  exact rets (r__law_right_15 ) ⟨rfl, a4, b4, c4, ⟨ha4, hc4, by omega⟩, by kernel_rfl⟩
end Law

namespace Law
open PySem Den PyProof.Rows L2
def dst (l : List (Int × Int × Int)) : List O := l.map fun t => d3 t.1 t.2.1 t.2.2
theorem dst_noLent (l : List (Int × Int × Int)) (o : O) (ho : isLent o = false) : noLent (dst l ++ [o]) = true := by
  unfold noLent dst
  rw [List.all_append, List.all_map, Bool.and_eq_true]
  refine ⟨List.all_eq_true.mpr fun _ _ => rfl, ?_⟩
  simp [ho]
theorem dst_at (l : List (Int × Int × Int)) (o : O) : (dst l ++ [o])[(dst l).length]? = some o := by
  rw [List.getElem?_append_right (Nat.le_refl _)]
  simp
theorem dst_set (l : List (Int × Int × Int)) (o o2 : O) : (dst l ++ [o]).set (dst l).length o2 = dst l ++ [o2] := by
  rw [List.set_append_right _ _ (Nat.le_refl _)]
  simp
theorem dst_app (l : List (Int × Int × Int)) (a b c : Int) : dst l ++ [d3 a b c] = dst (l ++ [(a, b, c)]) := by
  unfold dst
  rw [List.map_append]
  rfl
theorem cons_ev {d : DE} {da : DA} {env : EV} {st st1 : List O} {v : D} {xs : List D} (h : d env st = .ok v st1) (k : da env st1 = .ok xs st1) : dCons d da env st = .ok (v :: xs) st1 := by unfold dCons; rw [h]; show (da env st1).bind _ = _; rw [k]; rfl
theorem at__law_right {l : List (Int × Int × Int)} {a b c : Int} {N : Nat} (ha : 0 ≤ a) (hc : 0 ≤ c) (hm : c ≤ N) (hN : N < 100000) :
    ∃ a1 b1 c1 : Int, 0 ≤ a1 ∧ 0 ≤ c1 ∧ c1 ≤ ((N + 4 : Nat) : Int) ∧ c__law_right [.cel (dst l).length] (dst l ++ [d3 a b c]) = .ok (.bl true) (dst l ++ [d3 a1 b1 c1]) := by
  obtain ⟨a1, b1, c1, h1, h2, h3, e⟩ := good__law_right (b0 := b) ha hc hm hN
  refine ⟨a1, b1, c1, h1, h2, h3, ?_⟩
  rw [← dst_set l (d3 a b c) (d3 a1 b1 c1)]
  exact focus_d3 e (dst_at l _) (dst_noLent l _ rfl) rfl rfl
def lawBody : DS := (sSeq (sAsg (dFn c__law_dice (dCons (dVar 0) (dCons (dVar 1) dNil))) (gNm 2)) (sSeq (sFor (jI (iRange1 (dCons (dC (.int 2)) dNil))) (gNm 3) (sSeq (sIf (dNotT (dTru (dFn c__law_right (dCons (dVar 2) dNil)))) (sSeq (sRet (dC (.bl false))) sPass) sPass) sPass)) sPass))
theorem turn_ev {ns : List Int} {k : Nat} {e2 : Option D} {e3 : Option D} {l : List (Int × Int × Int)} (hl : ns.length ≤ 63) (hk : k < 100) :
    ∃ (f2 : Option D) (f3 : Option D) (t : Int × Int × Int), lawBody [some (.rol (ns.map .int)), some (.int k), e2, e3, none, none] (dst l) = .nx [some (.rol (ns.map .int)), some (.int k), f2, f3, none, none] (dst (l ++ [t])) := by
  obtain ⟨a0, b0, ha0, e0⟩ := dice_ev (ns := ns) (k := k) (dst l) hk hl
  have hc0 : (0 : Int) ≤ 0 := Int.le_refl _
  have hm0 : (0 : Int) ≤ ((0 : Nat) : Int) := Int.le_refl _
  obtain ⟨a1, b1, c1, ha1, hc1, hm1, r1⟩ := at__law_right (l := l) (b := b0) (N := 0) ha0 hc0 hm0 (by decide)
  obtain ⟨a2, b2, c2, ha2, hc2, hm2, r2⟩ := at__law_right (l := l) (b := b1) (N := 4) ha1 hc1 hm1 (by decide)
  refine ⟨some (.cel (dst l).length), some (.int 1), (a2, b2, c2), ?_⟩
  rw [← dst_app]
  unfold lawBody
  exact (seq_nx (env1 := [some (.rol (ns.map .int)), some (.int k), some (.cel (dst l).length), e3, none, none]) (st1 := (dst l ++ [d3 a0 b0 0])) (asg_nm (fn_ev (xs := [.rol (ns.map .int), .int k]) (st1 := dst l) rfl e0)) (seq_nx (env1 := [some (.rol (ns.map .int)), some (.int k), some (.cel (dst l).length), some (.int 1), none, none]) (st1 := (dst l ++ [d3 a2 b2 c2])) (Den.for_tup (f := fun _ => [.int 0, .int 1]) rfl (go_cons (env1 := [some (.rol (ns.map .int)), some (.int k), some (.cel (dst l).length), some (.int 0), none, none]) (env2 := [some (.rol (ns.map .int)), some (.int k), some (.cel (dst l).length), some (.int 0), none, none]) (st1 := (dst l ++ [d3 a1 b1 c1])) rfl (seq_nx (env1 := [some (.rol (ns.map .int)), some (.int k), some (.cel (dst l).length), some (.int 0), none, none]) (st1 := (dst l ++ [d3 a1 b1 c1])) (if_no (notT_ev (tru_ev (fn_ev (xs := [.cel (dst l).length]) rfl r1))) rfl) rfl) (go_cons (env1 := [some (.rol (ns.map .int)), some (.int k), some (.cel (dst l).length), some (.int 1), none, none]) (env2 := [some (.rol (ns.map .int)), some (.int k), some (.cel (dst l).length), some (.int 1), none, none]) (st1 := (dst l ++ [d3 a2 b2 c2])) rfl (seq_nx (env1 := [some (.rol (ns.map .int)), some (.int k), some (.cel (dst l).length), some (.int 1), none, none]) (st1 := (dst l ++ [d3 a2 b2 c2])) (if_no (notT_ev (tru_ev (fn_ev (xs := [.cel (dst l).length]) rfl r2))) rfl) rfl) rfl))) rfl))
theorem loop_ev {ns : List Int} (hl : ns.length ≤ 63) : ∀ (ks : List Nat) (e1 e2 e3 : Option D) (l : List (Int × Int × Int)), (∀ k ∈ ks, k < 100) →
    ∃ (f1 : Option D) (f2 : Option D) (f3 : Option D) (l2 : List (Int × Int × Int)), l2.length = l.length + ks.length ∧ forGo (gNm 1) lawBody (ks.map fun (k : Nat) => D.int (k : Int)) [some (.rol (ns.map .int)), e1, e2, e3, none, none] (dst l) = .nx [some (.rol (ns.map .int)), f1, f2, f3, none, none] (dst l2)
  | [], e1, e2, e3, l, _ => ⟨e1, e2, e3, l, rfl, rfl⟩
  | k :: ks, e1, e2, e3, l, hk => by
    obtain ⟨g2, g3, t, b1⟩ := turn_ev (k := k) (e2 := e2) (e3 := e3) (l := l) hl (hk k (List.mem_cons_self ..))
    obtain ⟨f1, f2, f3, l2, h2, q⟩ := loop_ev hl ks (some (.int k)) g2 g3 (l ++ [t]) (fun j hj => hk j (List.mem_cons_of_mem _ hj))
    exact ⟨f1, f2, f3, l2, by rw [h2, List.length_append, List.length_cons, List.length_cons, List.length_nil]; omega, go_cons rfl b1 q⟩
theorem range_ev {ns : List Int} : ∃ k : Nat, k ≤ 4 ∧ (jI (iRange1 (dCons (dCall bMax2 (dCons (dC (.int 1)) (dCons (dCall bMin2 (dCons (dC (.int 4)) (dCons (dCall bLen (dCons (dVar 0) dNil)) dNil))) dNil))) dNil))) [some (.rol (ns.map .int)), none, none, none, none, none] [] = .ok ([], fun _ => (List.range k).map fun (k : Nat) => D.int (k : Int)) [] := by
  have hb : (ns.map D.int).length = ns.length := List.length_map ..
  have go : ∀ L : Nat, ns.length = L → ∃ k : Nat, k ≤ 4 ∧ (if (if (L : Int) < 4 then (L : Int) else 4) > 1 then (if (L : Int) < 4 then (L : Int) else 4) else 1) = (k : Int) := fun L _ => by
    by_cases h4 : (L : Int) < 4
    · by_cases h1 : (L : Int) > 1
      · exact ⟨L, by omega, by rw [if_pos h4, if_pos h1]⟩
      · exact ⟨1, by omega, by simp [h4, h1]⟩
    · exact ⟨4, by omega, by simp [h4]⟩
  obtain ⟨k, hk, e⟩ := go ns.length rfl
  refine ⟨k, hk, ?_⟩
  have e1 : (iRange1 (dCons (dCall bMax2 (dCons (dC (.int 1)) (dCons (dCall bMin2 (dCons (dC (.int 4)) (dCons (dCall bLen (dCons (dVar 0) dNil)) dNil))) dNil))) dNil)) [some (.rol (ns.map .int)), none, none, none, none, none] [] = .ok (rngD 0 1 k) [] := by
    have e2 : bLen [.rol (ns.map .int)] [] = .ok (.int (ns.length : Int)) [] := by simp [bLen, seqOf]
    have hs : smallI (k : Int) = true := by
      have : k = 0 ∨ k = 1 ∨ k = 2 ∨ k = 3 ∨ k = 4 := by omega
      rcases this with rfl | rfl | rfl | rfl | rfl <;> decide
    simp only [iRange1, dCall, dCons, dNil, dVar, dC, R.bind, R.calm, List.getElem?_cons_zero, e2, bMin2, bMax2, e]
    rw [if_pos hs]
    rfl
  unfold jI
  rw [e1]
  have : k = 0 ∨ k = 1 ∨ k = 2 ∨ k = 3 ∨ k = 4 := by omega
  rcases this with rfl | rfl | rfl | rfl | rfl <;> rfl
theorem rest_0_1 {ns : List Int} {e1 e2 e3 : Option D}  : n_law_1 [some (.rol (ns.map .int)), e1, e2, e3, none, none] [] = .nx [some (.rol (ns.map .int)), e1, e2, e3, some (.tup [.str "+YYYYYYYYYYYY", .str "-XXXXXXXXXXXX", .str "+YYYYYYYYYYYY", .str "-XXXXXXXXXXXX", .str "+YYYYYYYYYYYY", .str "-XXXXXXXXXXXX", .str "+YYYYYYYYYYYY", .str "-XXXXXXXXXXXX", .str "+YYYYYYYYYYYY", .str "-XXXXXXXXXXXX", .str "+YYYYYYYYYYYY", .str "-XXXXXXXXXXXX", .str "+YYYYYYYYYYYY", .str "-XXXXXXXXXXXX", .str "+YYYYYYYYYYYY", .str "-XXXXXXXXXXXX", .str "+YYYYYYYYYYYY", .str "-XXXXXXXXXXXX", .str "+YYYYYYYYYYYY", .str "-XXXXXXXXXXXX", .str "+YYYYYYYYYYYY", .str "-XXXXXXXXXXXX", .str "+YYYYYYYYYYYY", .str "-XXXXXXXXXXXX"]), none] [] := by kernel_rfl
theorem rest_0_2 {ns : List Int} {e1 e2 e3 : Option D}  : n_law_2 [some (.rol (ns.map .int)), e1, e2, e3, some (.tup [.str "+YYYYYYYYYYYY", .str "-XXXXXXXXXXXX", .str "+YYYYYYYYYYYY", .str "-XXXXXXXXXXXX", .str "+YYYYYYYYYYYY", .str "-XXXXXXXXXXXX", .str "+YYYYYYYYYYYY", .str "-XXXXXXXXXXXX", .str "+YYYYYYYYYYYY", .str "-XXXXXXXXXXXX", .str "+YYYYYYYYYYYY", .str "-XXXXXXXXXXXX", .str "+YYYYYYYYYYYY", .str "-XXXXXXXXXXXX", .str "+YYYYYYYYYYYY", .str "-XXXXXXXXXXXX", .str "+YYYYYYYYYYYY", .str "-XXXXXXXXXXXX", .str "+YYYYYYYYYYYY", .str "-XXXXXXXXXXXX", .str "+YYYYYYYYYYYY", .str "-XXXXXXXXXXXX", .str "+YYYYYYYYYYYY", .str "-XXXXXXXXXXXX"]), none] [] = .nx [some (.rol (ns.map .int)), e1, e2, e3, some (.tup [.str "+YYYYYYYYYYYY", .str "-XXXXXXXXXXXX", .str "+YYYYYYYYYYYY", .str "-XXXXXXXXXXXX", .str "+YYYYYYYYYYYY", .str "-XXXXXXXXXXXX", .str "+YYYYYYYYYYYY", .str "-XXXXXXXXXXXX", .str "+YYYYYYYYYYYY", .str "-XXXXXXXXXXXX", .str "+YYYYYYYYYYYY", .str "-XXXXXXXXXXXX", .str "+YYYYYYYYYYYY", .str "-XXXXXXXXXXXX", .str "+YYYYYYYYYYYY", .str "-XXXXXXXXXXXX", .str "+YYYYYYYYYYYY", .str "-XXXXXXXXXXXX", .str "+YYYYYYYYYYYY", .str "-XXXXXXXXXXXX", .str "+YYYYYYYYYYYY", .str "-XXXXXXXXXXXX", .str "+YYYYYYYYYYYY", .str "-XXXXXXXXXXXX"]), some (.cel 0)] [O.lst [.tup [.str "fine"]]] := by kernel_rfl
theorem rest_0_3 {ns : List Int} {e1 e2 e3 : Option D}  : n_law_3 [some (.rol (ns.map .int)), e1, e2, e3, some (.tup [.str "+YYYYYYYYYYYY", .str "-XXXXXXXXXXXX", .str "+YYYYYYYYYYYY", .str "-XXXXXXXXXXXX", .str "+YYYYYYYYYYYY", .str "-XXXXXXXXXXXX", .str "+YYYYYYYYYYYY", .str "-XXXXXXXXXXXX", .str "+YYYYYYYYYYYY", .str "-XXXXXXXXXXXX", .str "+YYYYYYYYYYYY", .str "-XXXXXXXXXXXX", .str "+YYYYYYYYYYYY", .str "-XXXXXXXXXXXX", .str "+YYYYYYYYYYYY", .str "-XXXXXXXXXXXX", .str "+YYYYYYYYYYYY", .str "-XXXXXXXXXXXX", .str "+YYYYYYYYYYYY", .str "-XXXXXXXXXXXX", .str "+YYYYYYYYYYYY", .str "-XXXXXXXXXXXX", .str "+YYYYYYYYYYYY", .str "-XXXXXXXXXXXX"]), some (.cel 0)] [O.lst [.tup [.str "fine"]]] = .nx [some (.rol (ns.map .int)), e1, e2, e3, some (.tup [.str "+YYYYYYYYYYYY", .str "-XXXXXXXXXXXX", .str "+YYYYYYYYYYYY", .str "-XXXXXXXXXXXX", .str "+YYYYYYYYYYYY", .str "-XXXXXXXXXXXX", .str "+YYYYYYYYYYYY", .str "-XXXXXXXXXXXX", .str "+YYYYYYYYYYYY", .str "-XXXXXXXXXXXX", .str "+YYYYYYYYYYYY", .str "-XXXXXXXXXXXX", .str "+YYYYYYYYYYYY", .str "-XXXXXXXXXXXX", .str "+YYYYYYYYYYYY", .str "-XXXXXXXXXXXX", .str "+YYYYYYYYYYYY", .str "-XXXXXXXXXXXX", .str "+YYYYYYYYYYYY", .str "-XXXXXXXXXXXX", .str "+YYYYYYYYYYYY", .str "-XXXXXXXXXXXX", .str "+YYYYYYYYYYYY", .str "-XXXXXXXXXXXX"]), some (.cel 0)] [O.lst [.tup [.str "fine"], .tup [.str "fine"]]] := by kernel_rfl
theorem rest_0_4 {ns : List Int} {e1 e2 e3 : Option D}  : n_law_4 [some (.rol (ns.map .int)), e1, e2, e3, some (.tup [.str "+YYYYYYYYYYYY", .str "-XXXXXXXXXXXX", .str "+YYYYYYYYYYYY", .str "-XXXXXXXXXXXX", .str "+YYYYYYYYYYYY", .str "-XXXXXXXXXXXX", .str "+YYYYYYYYYYYY", .str "-XXXXXXXXXXXX", .str "+YYYYYYYYYYYY", .str "-XXXXXXXXXXXX", .str "+YYYYYYYYYYYY", .str "-XXXXXXXXXXXX", .str "+YYYYYYYYYYYY", .str "-XXXXXXXXXXXX", .str "+YYYYYYYYYYYY", .str "-XXXXXXXXXXXX", .str "+YYYYYYYYYYYY", .str "-XXXXXXXXXXXX", .str "+YYYYYYYYYYYY", .str "-XXXXXXXXXXXX", .str "+YYYYYYYYYYYY", .str "-XXXXXXXXXXXX", .str "+YYYYYYYYYYYY", .str "-XXXXXXXXXXXX"]), some (.cel 0)] [O.lst [.tup [.str "fine"], .tup [.str "fine"]]] = .nx [some (.rol (ns.map .int)), e1, e2, e3, some (.tup [.str "+YYYYYYYYYYYY", .str "-XXXXXXXXXXXX", .str "+YYYYYYYYYYYY", .str "-XXXXXXXXXXXX", .str "+YYYYYYYYYYYY", .str "-XXXXXXXXXXXX", .str "+YYYYYYYYYYYY", .str "-XXXXXXXXXXXX", .str "+YYYYYYYYYYYY", .str "-XXXXXXXXXXXX", .str "+YYYYYYYYYYYY", .str "-XXXXXXXXXXXX", .str "+YYYYYYYYYYYY", .str "-XXXXXXXXXXXX", .str "+YYYYYYYYYYYY", .str "-XXXXXXXXXXXX", .str "+YYYYYYYYYYYY", .str "-XXXXXXXXXXXX", .str "+YYYYYYYYYYYY", .str "-XXXXXXXXXXXX", .str "+YYYYYYYYYYYY", .str "-XXXXXXXXXXXX", .str "+YYYYYYYYYYYY", .str "-XXXXXXXXXXXX"]), some (.cel 0)] [O.lst [.tup [.str "fine"], .tup [.str "fine"]]] := by kernel_rfl
theorem rest_0_5 {ns : List Int} {e1 e2 e3 : Option D}  : n_law_5 [some (.rol (ns.map .int)), e1, e2, e3, some (.tup [.str "+YYYYYYYYYYYY", .str "-XXXXXXXXXXXX", .str "+YYYYYYYYYYYY", .str "-XXXXXXXXXXXX", .str "+YYYYYYYYYYYY", .str "-XXXXXXXXXXXX", .str "+YYYYYYYYYYYY", .str "-XXXXXXXXXXXX", .str "+YYYYYYYYYYYY", .str "-XXXXXXXXXXXX", .str "+YYYYYYYYYYYY", .str "-XXXXXXXXXXXX", .str "+YYYYYYYYYYYY", .str "-XXXXXXXXXXXX", .str "+YYYYYYYYYYYY", .str "-XXXXXXXXXXXX", .str "+YYYYYYYYYYYY", .str "-XXXXXXXXXXXX", .str "+YYYYYYYYYYYY", .str "-XXXXXXXXXXXX", .str "+YYYYYYYYYYYY", .str "-XXXXXXXXXXXX", .str "+YYYYYYYYYYYY", .str "-XXXXXXXXXXXX"]), some (.cel 0)] [O.lst [.tup [.str "fine"], .tup [.str "fine"]]] = .rt (.bl true) [O.lst [.tup [.str "fine"], .tup [.str "fine"]]] := by kernel_rfl
theorem rest_0 {ns : List Int} {e1 e2 e3 : Option D}  : Runs ((sSeq n_law_1 (sSeq n_law_2 (sSeq n_law_3 (sSeq n_law_4 (sSeq n_law_5 sPass))))) [some (.rol (ns.map .int)), e1, e2, e3, none, none] []) fun d _ => d = .bl true := by
  refine Den.step (env1 := [some (.rol (ns.map .int)), e1, e2, e3, some (.tup [.str "+YYYYYYYYYYYY", .str "-XXXXXXXXXXXX", .str "+YYYYYYYYYYYY", .str "-XXXXXXXXXXXX", .str "+YYYYYYYYYYYY", .str "-XXXXXXXXXXXX", .str "+YYYYYYYYYYYY", .str "-XXXXXXXXXXXX", .str "+YYYYYYYYYYYY", .str "-XXXXXXXXXXXX", .str "+YYYYYYYYYYYY", .str "-XXXXXXXXXXXX", .str "+YYYYYYYYYYYY", .str "-XXXXXXXXXXXX", .str "+YYYYYYYYYYYY", .str "-XXXXXXXXXXXX", .str "+YYYYYYYYYYYY", .str "-XXXXXXXXXXXX", .str "+YYYYYYYYYYYY", .str "-XXXXXXXXXXXX", .str "+YYYYYYYYYYYY", .str "-XXXXXXXXXXXX", .str "+YYYYYYYYYYYY", .str "-XXXXXXXXXXXX"]), none]) (st1 := []) rest_0_1 ?_
  refine Den.step (env1 := [some (.rol (ns.map .int)), e1, e2, e3, some (.tup [.str "+YYYYYYYYYYYY", .str "-XXXXXXXXXXXX", .str "+YYYYYYYYYYYY", .str "-XXXXXXXXXXXX", .str "+YYYYYYYYYYYY", .str "-XXXXXXXXXXXX", .str "+YYYYYYYYYYYY", .str "-XXXXXXXXXXXX", .str "+YYYYYYYYYYYY", .str "-XXXXXXXXXXXX", .str "+YYYYYYYYYYYY", .str "-XXXXXXXXXXXX", .str "+YYYYYYYYYYYY", .str "-XXXXXXXXXXXX", .str "+YYYYYYYYYYYY", .str "-XXXXXXXXXXXX", .str "+YYYYYYYYYYYY", .str "-XXXXXXXXXXXX", .str "+YYYYYYYYYYYY", .str "-XXXXXXXXXXXX", .str "+YYYYYYYYYYYY", .str "-XXXXXXXXXXXX", .str "+YYYYYYYYYYYY", .str "-XXXXXXXXXXXX"]), some (.cel 0)]) (st1 := [O.lst [.tup [.str "fine"]]]) rest_0_2 ?_
  refine Den.step (env1 := [some (.rol (ns.map .int)), e1, e2, e3, some (.tup [.str "+YYYYYYYYYYYY", .str "-XXXXXXXXXXXX", .str "+YYYYYYYYYYYY", .str "-XXXXXXXXXXXX", .str "+YYYYYYYYYYYY", .str "-XXXXXXXXXXXX", .str "+YYYYYYYYYYYY", .str "-XXXXXXXXXXXX", .str "+YYYYYYYYYYYY", .str "-XXXXXXXXXXXX", .str "+YYYYYYYYYYYY", .str "-XXXXXXXXXXXX", .str "+YYYYYYYYYYYY", .str "-XXXXXXXXXXXX", .str "+YYYYYYYYYYYY", .str "-XXXXXXXXXXXX", .str "+YYYYYYYYYYYY", .str "-XXXXXXXXXXXX", .str "+YYYYYYYYYYYY", .str "-XXXXXXXXXXXX", .str "+YYYYYYYYYYYY", .str "-XXXXXXXXXXXX", .str "+YYYYYYYYYYYY", .str "-XXXXXXXXXXXX"]), some (.cel 0)]) (st1 := [O.lst [.tup [.str "fine"], .tup [.str "fine"]]]) rest_0_3 ?_
  refine Den.step (env1 := [some (.rol (ns.map .int)), e1, e2, e3, some (.tup [.str "+YYYYYYYYYYYY", .str "-XXXXXXXXXXXX", .str "+YYYYYYYYYYYY", .str "-XXXXXXXXXXXX", .str "+YYYYYYYYYYYY", .str "-XXXXXXXXXXXX", .str "+YYYYYYYYYYYY", .str "-XXXXXXXXXXXX", .str "+YYYYYYYYYYYY", .str "-XXXXXXXXXXXX", .str "+YYYYYYYYYYYY", .str "-XXXXXXXXXXXX", .str "+YYYYYYYYYYYY", .str "-XXXXXXXXXXXX", .str "+YYYYYYYYYYYY", .str "-XXXXXXXXXXXX", .str "+YYYYYYYYYYYY", .str "-XXXXXXXXXXXX", .str "+YYYYYYYYYYYY", .str "-XXXXXXXXXXXX", .str "+YYYYYYYYYYYY", .str "-XXXXXXXXXXXX", .str "+YYYYYYYYYYYY", .str "-XXXXXXXXXXXX"]), some (.cel 0)]) (st1 := [O.lst [.tup [.str "fine"], .tup [.str "fine"]]]) rest_0_4 ?_
  exact rets rest_0_5 rfl
theorem rest_1_1 {ns : List Int} {e1 e2 e3 : Option D} {p0 q0 s0 : Int} : n_law_1 [some (.rol (ns.map .int)), e1, e2, e3, none, none] [d3 p0 q0 s0] = .nx [some (.rol (ns.map .int)), e1, e2, e3, some (.tup [.str "+YYYYYYYYYYYY", .str "-XXXXXXXXXXXX", .str "+YYYYYYYYYYYY", .str "-XXXXXXXXXXXX", .str "+YYYYYYYYYYYY", .str "-XXXXXXXXXXXX", .str "+YYYYYYYYYYYY", .str "-XXXXXXXXXXXX", .str "+YYYYYYYYYYYY", .str "-XXXXXXXXXXXX", .str "+YYYYYYYYYYYY", .str "-XXXXXXXXXXXX", .str "+YYYYYYYYYYYY", .str "-XXXXXXXXXXXX", .str "+YYYYYYYYYYYY", .str "-XXXXXXXXXXXX", .str "+YYYYYYYYYYYY", .str "-XXXXXXXXXXXX", .str "+YYYYYYYYYYYY", .str "-XXXXXXXXXXXX", .str "+YYYYYYYYYYYY", .str "-XXXXXXXXXXXX", .str "+YYYYYYYYYYYY", .str "-XXXXXXXXXXXX"]), none] [d3 p0 q0 s0] := by kernel_rfl
theorem rest_1_2 {ns : List Int} {e1 e2 e3 : Option D} {p0 q0 s0 : Int} : n_law_2 [some (.rol (ns.map .int)), e1, e2, e3, some (.tup [.str "+YYYYYYYYYYYY", .str "-XXXXXXXXXXXX", .str "+YYYYYYYYYYYY", .str "-XXXXXXXXXXXX", .str "+YYYYYYYYYYYY", .str "-XXXXXXXXXXXX", .str "+YYYYYYYYYYYY", .str "-XXXXXXXXXXXX", .str "+YYYYYYYYYYYY", .str "-XXXXXXXXXXXX", .str "+YYYYYYYYYYYY", .str "-XXXXXXXXXXXX", .str "+YYYYYYYYYYYY", .str "-XXXXXXXXXXXX", .str "+YYYYYYYYYYYY", .str "-XXXXXXXXXXXX", .str "+YYYYYYYYYYYY", .str "-XXXXXXXXXXXX", .str "+YYYYYYYYYYYY", .str "-XXXXXXXXXXXX", .str "+YYYYYYYYYYYY", .str "-XXXXXXXXXXXX", .str "+YYYYYYYYYYYY", .str "-XXXXXXXXXXXX"]), none] [d3 p0 q0 s0] = .nx [some (.rol (ns.map .int)), e1, e2, e3, some (.tup [.str "+YYYYYYYYYYYY", .str "-XXXXXXXXXXXX", .str "+YYYYYYYYYYYY", .str "-XXXXXXXXXXXX", .str "+YYYYYYYYYYYY", .str "-XXXXXXXXXXXX", .str "+YYYYYYYYYYYY", .str "-XXXXXXXXXXXX", .str "+YYYYYYYYYYYY", .str "-XXXXXXXXXXXX", .str "+YYYYYYYYYYYY", .str "-XXXXXXXXXXXX", .str "+YYYYYYYYYYYY", .str "-XXXXXXXXXXXX", .str "+YYYYYYYYYYYY", .str "-XXXXXXXXXXXX", .str "+YYYYYYYYYYYY", .str "-XXXXXXXXXXXX", .str "+YYYYYYYYYYYY", .str "-XXXXXXXXXXXX", .str "+YYYYYYYYYYYY", .str "-XXXXXXXXXXXX", .str "+YYYYYYYYYYYY", .str "-XXXXXXXXXXXX"]), some (.cel 1)] [d3 p0 q0 s0, O.lst [.tup [.str "fine"]]] := by kernel_rfl
theorem rest_1_3 {ns : List Int} {e1 e2 e3 : Option D} {p0 q0 s0 : Int} : n_law_3 [some (.rol (ns.map .int)), e1, e2, e3, some (.tup [.str "+YYYYYYYYYYYY", .str "-XXXXXXXXXXXX", .str "+YYYYYYYYYYYY", .str "-XXXXXXXXXXXX", .str "+YYYYYYYYYYYY", .str "-XXXXXXXXXXXX", .str "+YYYYYYYYYYYY", .str "-XXXXXXXXXXXX", .str "+YYYYYYYYYYYY", .str "-XXXXXXXXXXXX", .str "+YYYYYYYYYYYY", .str "-XXXXXXXXXXXX", .str "+YYYYYYYYYYYY", .str "-XXXXXXXXXXXX", .str "+YYYYYYYYYYYY", .str "-XXXXXXXXXXXX", .str "+YYYYYYYYYYYY", .str "-XXXXXXXXXXXX", .str "+YYYYYYYYYYYY", .str "-XXXXXXXXXXXX", .str "+YYYYYYYYYYYY", .str "-XXXXXXXXXXXX", .str "+YYYYYYYYYYYY", .str "-XXXXXXXXXXXX"]), some (.cel 1)] [d3 p0 q0 s0, O.lst [.tup [.str "fine"]]] = .nx [some (.rol (ns.map .int)), e1, e2, e3, some (.tup [.str "+YYYYYYYYYYYY", .str "-XXXXXXXXXXXX", .str "+YYYYYYYYYYYY", .str "-XXXXXXXXXXXX", .str "+YYYYYYYYYYYY", .str "-XXXXXXXXXXXX", .str "+YYYYYYYYYYYY", .str "-XXXXXXXXXXXX", .str "+YYYYYYYYYYYY", .str "-XXXXXXXXXXXX", .str "+YYYYYYYYYYYY", .str "-XXXXXXXXXXXX", .str "+YYYYYYYYYYYY", .str "-XXXXXXXXXXXX", .str "+YYYYYYYYYYYY", .str "-XXXXXXXXXXXX", .str "+YYYYYYYYYYYY", .str "-XXXXXXXXXXXX", .str "+YYYYYYYYYYYY", .str "-XXXXXXXXXXXX", .str "+YYYYYYYYYYYY", .str "-XXXXXXXXXXXX", .str "+YYYYYYYYYYYY", .str "-XXXXXXXXXXXX"]), some (.cel 1)] [d3 p0 q0 s0, O.lst [.tup [.str "fine"], .tup [.str "fine"]]] := by kernel_rfl
theorem rest_1_4 {ns : List Int} {e1 e2 e3 : Option D} {p0 q0 s0 : Int} : n_law_4 [some (.rol (ns.map .int)), e1, e2, e3, some (.tup [.str "+YYYYYYYYYYYY", .str "-XXXXXXXXXXXX", .str "+YYYYYYYYYYYY", .str "-XXXXXXXXXXXX", .str "+YYYYYYYYYYYY", .str "-XXXXXXXXXXXX", .str "+YYYYYYYYYYYY", .str "-XXXXXXXXXXXX", .str "+YYYYYYYYYYYY", .str "-XXXXXXXXXXXX", .str "+YYYYYYYYYYYY", .str "-XXXXXXXXXXXX", .str "+YYYYYYYYYYYY", .str "-XXXXXXXXXXXX", .str "+YYYYYYYYYYYY", .str "-XXXXXXXXXXXX", .str "+YYYYYYYYYYYY", .str "-XXXXXXXXXXXX", .str "+YYYYYYYYYYYY", .str "-XXXXXXXXXXXX", .str "+YYYYYYYYYYYY", .str "-XXXXXXXXXXXX", .str "+YYYYYYYYYYYY", .str "-XXXXXXXXXXXX"]), some (.cel 1)] [d3 p0 q0 s0, O.lst [.tup [.str "fine"], .tup [.str "fine"]]] = .nx [some (.rol (ns.map .int)), e1, e2, e3, some (.tup [.str "+YYYYYYYYYYYY", .str "-XXXXXXXXXXXX", .str "+YYYYYYYYYYYY", .str "-XXXXXXXXXXXX", .str "+YYYYYYYYYYYY", .str "-XXXXXXXXXXXX", .str "+YYYYYYYYYYYY", .str "-XXXXXXXXXXXX", .str "+YYYYYYYYYYYY", .str "-XXXXXXXXXXXX", .str "+YYYYYYYYYYYY", .str "-XXXXXXXXXXXX", .str "+YYYYYYYYYYYY", .str "-XXXXXXXXXXXX", .str "+YYYYYYYYYYYY", .str "-XXXXXXXXXXXX", .str "+YYYYYYYYYYYY", .str "-XXXXXXXXXXXX", .str "+YYYYYYYYYYYY", .str "-XXXXXXXXXXXX", .str "+YYYYYYYYYYYY", .str "-XXXXXXXXXXXX", .str "+YYYYYYYYYYYY", .str "-XXXXXXXXXXXX"]), some (.cel 1)] [d3 p0 q0 s0, O.lst [.tup [.str "fine"], .tup [.str "fine"]]] := by kernel_rfl
theorem rest_1_5 {ns : List Int} {e1 e2 e3 : Option D} {p0 q0 s0 : Int} : n_law_5 [some (.rol (ns.map .int)), e1, e2, e3, some (.tup [.str "+YYYYYYYYYYYY", .str "-XXXXXXXXXXXX", .str "+YYYYYYYYYYYY", .str "-XXXXXXXXXXXX", .str "+YYYYYYYYYYYY", .str "-XXXXXXXXXXXX", .str "+YYYYYYYYYYYY", .str "-XXXXXXXXXXXX", .str "+YYYYYYYYYYYY", .str "-XXXXXXXXXXXX", .str "+YYYYYYYYYYYY", .str "-XXXXXXXXXXXX", .str "+YYYYYYYYYYYY", .str "-XXXXXXXXXXXX", .str "+YYYYYYYYYYYY", .str "-XXXXXXXXXXXX", .str "+YYYYYYYYYYYY", .str "-XXXXXXXXXXXX", .str "+YYYYYYYYYYYY", .str "-XXXXXXXXXXXX", .str "+YYYYYYYYYYYY", .str "-XXXXXXXXXXXX", .str "+YYYYYYYYYYYY", .str "-XXXXXXXXXXXX"]), some (.cel 1)] [d3 p0 q0 s0, O.lst [.tup [.str "fine"], .tup [.str "fine"]]] = .rt (.bl true) [d3 p0 q0 s0, O.lst [.tup [.str "fine"], .tup [.str "fine"]]] := by kernel_rfl
theorem rest_1 {ns : List Int} {e1 e2 e3 : Option D} {p0 q0 s0 : Int} : Runs ((sSeq n_law_1 (sSeq n_law_2 (sSeq n_law_3 (sSeq n_law_4 (sSeq n_law_5 sPass))))) [some (.rol (ns.map .int)), e1, e2, e3, none, none] [d3 p0 q0 s0]) fun d _ => d = .bl true := by
  refine Den.step (env1 := [some (.rol (ns.map .int)), e1, e2, e3, some (.tup [.str "+YYYYYYYYYYYY", .str "-XXXXXXXXXXXX", .str "+YYYYYYYYYYYY", .str "-XXXXXXXXXXXX", .str "+YYYYYYYYYYYY", .str "-XXXXXXXXXXXX", .str "+YYYYYYYYYYYY", .str "-XXXXXXXXXXXX", .str "+YYYYYYYYYYYY", .str "-XXXXXXXXXXXX", .str "+YYYYYYYYYYYY", .str "-XXXXXXXXXXXX", .str "+YYYYYYYYYYYY", .str "-XXXXXXXXXXXX", .str "+YYYYYYYYYYYY", .str "-XXXXXXXXXXXX", .str "+YYYYYYYYYYYY", .str "-XXXXXXXXXXXX", .str "+YYYYYYYYYYYY", .str "-XXXXXXXXXXXX", .str "+YYYYYYYYYYYY", .str "-XXXXXXXXXXXX", .str "+YYYYYYYYYYYY", .str "-XXXXXXXXXXXX"]), none]) (st1 := [d3 p0 q0 s0]) rest_1_1 ?_
  refine Den.step (env1 := [some (.rol (ns.map .int)), e1, e2, e3, some (.tup [.str "+YYYYYYYYYYYY", .str "-XXXXXXXXXXXX", .str "+YYYYYYYYYYYY", .str "-XXXXXXXXXXXX", .str "+YYYYYYYYYYYY", .str "-XXXXXXXXXXXX", .str "+YYYYYYYYYYYY", .str "-XXXXXXXXXXXX", .str "+YYYYYYYYYYYY", .str "-XXXXXXXXXXXX", .str "+YYYYYYYYYYYY", .str "-XXXXXXXXXXXX", .str "+YYYYYYYYYYYY", .str "-XXXXXXXXXXXX", .str "+YYYYYYYYYYYY", .str "-XXXXXXXXXXXX", .str "+YYYYYYYYYYYY", .str "-XXXXXXXXXXXX", .str "+YYYYYYYYYYYY", .str "-XXXXXXXXXXXX", .str "+YYYYYYYYYYYY", .str "-XXXXXXXXXXXX", .str "+YYYYYYYYYYYY", .str "-XXXXXXXXXXXX"]), some (.cel 1)]) (st1 := [d3 p0 q0 s0, O.lst [.tup [.str "fine"]]]) rest_1_2 ?_
  refine Den.step (env1 := [some (.rol (ns.map .int)), e1, e2, e3, some (.tup [.str "+YYYYYYYYYYYY", .str "-XXXXXXXXXXXX", .str "+YYYYYYYYYYYY", .str "-XXXXXXXXXXXX", .str "+YYYYYYYYYYYY", .str "-XXXXXXXXXXXX", .str "+YYYYYYYYYYYY", .str "-XXXXXXXXXXXX", .str "+YYYYYYYYYYYY", .str "-XXXXXXXXXXXX", .str "+YYYYYYYYYYYY", .str "-XXXXXXXXXXXX", .str "+YYYYYYYYYYYY", .str "-XXXXXXXXXXXX", .str "+YYYYYYYYYYYY", .str "-XXXXXXXXXXXX", .str "+YYYYYYYYYYYY", .str "-XXXXXXXXXXXX", .str "+YYYYYYYYYYYY", .str "-XXXXXXXXXXXX", .str "+YYYYYYYYYYYY", .str "-XXXXXXXXXXXX", .str "+YYYYYYYYYYYY", .str "-XXXXXXXXXXXX"]), some (.cel 1)]) (st1 := [d3 p0 q0 s0, O.lst [.tup [.str "fine"], .tup [.str "fine"]]]) rest_1_3 ?_
  refine Den.step (env1 := [some (.rol (ns.map .int)), e1, e2, e3, some (.tup [.str "+YYYYYYYYYYYY", .str "-XXXXXXXXXXXX", .str "+YYYYYYYYYYYY", .str "-XXXXXXXXXXXX", .str "+YYYYYYYYYYYY", .str "-XXXXXXXXXXXX", .str "+YYYYYYYYYYYY", .str "-XXXXXXXXXXXX", .str "+YYYYYYYYYYYY", .str "-XXXXXXXXXXXX", .str "+YYYYYYYYYYYY", .str "-XXXXXXXXXXXX", .str "+YYYYYYYYYYYY", .str "-XXXXXXXXXXXX", .str "+YYYYYYYYYYYY", .str "-XXXXXXXXXXXX", .str "+YYYYYYYYYYYY", .str "-XXXXXXXXXXXX", .str "+YYYYYYYYYYYY", .str "-XXXXXXXXXXXX", .str "+YYYYYYYYYYYY", .str "-XXXXXXXXXXXX", .str "+YYYYYYYYYYYY", .str "-XXXXXXXXXXXX"]), some (.cel 1)]) (st1 := [d3 p0 q0 s0, O.lst [.tup [.str "fine"], .tup [.str "fine"]]]) rest_1_4 ?_
  exact rets rest_1_5 rfl
theorem rest_2_1 {ns : List Int} {e1 e2 e3 : Option D} {p0 q0 s0 p1 q1 s1 : Int} : n_law_1 [some (.rol (ns.map .int)), e1, e2, e3, none, none] [d3 p0 q0 s0, d3 p1 q1 s1] = .nx [some (.rol (ns.map .int)), e1, e2, e3, some (.tup [.str "+YYYYYYYYYYYY", .str "-XXXXXXXXXXXX", .str "+YYYYYYYYYYYY", .str "-XXXXXXXXXXXX", .str "+YYYYYYYYYYYY", .str "-XXXXXXXXXXXX", .str "+YYYYYYYYYYYY", .str "-XXXXXXXXXXXX", .str "+YYYYYYYYYYYY", .str "-XXXXXXXXXXXX", .str "+YYYYYYYYYYYY", .str "-XXXXXXXXXXXX", .str "+YYYYYYYYYYYY", .str "-XXXXXXXXXXXX", .str "+YYYYYYYYYYYY", .str "-XXXXXXXXXXXX", .str "+YYYYYYYYYYYY", .str "-XXXXXXXXXXXX", .str "+YYYYYYYYYYYY", .str "-XXXXXXXXXXXX", .str "+YYYYYYYYYYYY", .str "-XXXXXXXXXXXX", .str "+YYYYYYYYYYYY", .str "-XXXXXXXXXXXX"]), none] [d3 p0 q0 s0, d3 p1 q1 s1] := by kernel_rfl
theorem rest_2_2 {ns : List Int} {e1 e2 e3 : Option D} {p0 q0 s0 p1 q1 s1 : Int} : n_law_2 [some (.rol (ns.map .int)), e1, e2, e3, some (.tup [.str "+YYYYYYYYYYYY", .str "-XXXXXXXXXXXX", .str "+YYYYYYYYYYYY", .str "-XXXXXXXXXXXX", .str "+YYYYYYYYYYYY", .str "-XXXXXXXXXXXX", .str "+YYYYYYYYYYYY", .str "-XXXXXXXXXXXX", .str "+YYYYYYYYYYYY", .str "-XXXXXXXXXXXX", .str "+YYYYYYYYYYYY", .str "-XXXXXXXXXXXX", .str "+YYYYYYYYYYYY", .str "-XXXXXXXXXXXX", .str "+YYYYYYYYYYYY", .str "-XXXXXXXXXXXX", .str "+YYYYYYYYYYYY", .str "-XXXXXXXXXXXX", .str "+YYYYYYYYYYYY", .str "-XXXXXXXXXXXX", .str "+YYYYYYYYYYYY", .str "-XXXXXXXXXXXX", .str "+YYYYYYYYYYYY", .str "-XXXXXXXXXXXX"]), none] [d3 p0 q0 s0, d3 p1 q1 s1] = .nx [some (.rol (ns.map .int)), e1, e2, e3, some (.tup [.str "+YYYYYYYYYYYY", .str "-XXXXXXXXXXXX", .str "+YYYYYYYYYYYY", .str "-XXXXXXXXXXXX", .str "+YYYYYYYYYYYY", .str "-XXXXXXXXXXXX", .str "+YYYYYYYYYYYY", .str "-XXXXXXXXXXXX", .str "+YYYYYYYYYYYY", .str "-XXXXXXXXXXXX", .str "+YYYYYYYYYYYY", .str "-XXXXXXXXXXXX", .str "+YYYYYYYYYYYY", .str "-XXXXXXXXXXXX", .str "+YYYYYYYYYYYY", .str "-XXXXXXXXXXXX", .str "+YYYYYYYYYYYY", .str "-XXXXXXXXXXXX", .str "+YYYYYYYYYYYY", .str "-XXXXXXXXXXXX", .str "+YYYYYYYYYYYY", .str "-XXXXXXXXXXXX", .str "+YYYYYYYYYYYY", .str "-XXXXXXXXXXXX"]), some (.cel 2)] [d3 p0 q0 s0, d3 p1 q1 s1, O.lst [.tup [.str "fine"]]] := by kernel_rfl
theorem rest_2_3 {ns : List Int} {e1 e2 e3 : Option D} {p0 q0 s0 p1 q1 s1 : Int} : n_law_3 [some (.rol (ns.map .int)), e1, e2, e3, some (.tup [.str "+YYYYYYYYYYYY", .str "-XXXXXXXXXXXX", .str "+YYYYYYYYYYYY", .str "-XXXXXXXXXXXX", .str "+YYYYYYYYYYYY", .str "-XXXXXXXXXXXX", .str "+YYYYYYYYYYYY", .str "-XXXXXXXXXXXX", .str "+YYYYYYYYYYYY", .str "-XXXXXXXXXXXX", .str "+YYYYYYYYYYYY", .str "-XXXXXXXXXXXX", .str "+YYYYYYYYYYYY", .str "-XXXXXXXXXXXX", .str "+YYYYYYYYYYYY", .str "-XXXXXXXXXXXX", .str "+YYYYYYYYYYYY", .str "-XXXXXXXXXXXX", .str "+YYYYYYYYYYYY", .str "-XXXXXXXXXXXX", .str "+YYYYYYYYYYYY", .str "-XXXXXXXXXXXX", .str "+YYYYYYYYYYYY", .str "-XXXXXXXXXXXX"]), some (.cel 2)] [d3 p0 q0 s0, d3 p1 q1 s1, O.lst [.tup [.str "fine"]]] = .nx [some (.rol (ns.map .int)), e1, e2, e3, some (.tup [.str "+YYYYYYYYYYYY", .str "-XXXXXXXXXXXX", .str "+YYYYYYYYYYYY", .str "-XXXXXXXXXXXX", .str "+YYYYYYYYYYYY", .str "-XXXXXXXXXXXX", .str "+YYYYYYYYYYYY", .str "-XXXXXXXXXXXX", .str "+YYYYYYYYYYYY", .str "-XXXXXXXXXXXX", .str "+YYYYYYYYYYYY", .str "-XXXXXXXXXXXX", .str "+YYYYYYYYYYYY", .str "-XXXXXXXXXXXX", .str "+YYYYYYYYYYYY", .str "-XXXXXXXXXXXX", .str "+YYYYYYYYYYYY", .str "-XXXXXXXXXXXX", .str "+YYYYYYYYYYYY", .str "-XXXXXXXXXXXX", .str "+YYYYYYYYYYYY", .str "-XXXXXXXXXXXX", .str "+YYYYYYYYYYYY", .str "-XXXXXXXXXXXX"]), some (.cel 2)] [d3 p0 q0 s0, d3 p1 q1 s1, O.lst [.tup [.str "fine"], .tup [.str "fine"]]] := by kernel_rfl
theorem rest_2_4 {ns : List Int} {e1 e2 e3 : Option D} {p0 q0 s0 p1 q1 s1 : Int} : n_law_4 [some (.rol (ns.map .int)), e1, e2, e3, some (.tup [.str "+YYYYYYYYYYYY", .str "-XXXXXXXXXXXX", .str "+YYYYYYYYYYYY", .str "-XXXXXXXXXXXX", .str "+YYYYYYYYYYYY", .str "-XXXXXXXXXXXX", .str "+YYYYYYYYYYYY", .str "-XXXXXXXXXXXX", .str "+YYYYYYYYYYYY", .str "-XXXXXXXXXXXX", .str "+YYYYYYYYYYYY", .str "-XXXXXXXXXXXX", .str "+YYYYYYYYYYYY", .str "-XXXXXXXXXXXX", .str "+YYYYYYYYYYYY", .str "-XXXXXXXXXXXX", .str "+YYYYYYYYYYYY", .str "-XXXXXXXXXXXX", .str "+YYYYYYYYYYYY", .str "-XXXXXXXXXXXX", .str "+YYYYYYYYYYYY", .str "-XXXXXXXXXXXX", .str "+YYYYYYYYYYYY", .str "-XXXXXXXXXXXX"]), some (.cel 2)] [d3 p0 q0 s0, d3 p1 q1 s1, O.lst [.tup [.str "fine"], .tup [.str "fine"]]] = .nx [some (.rol (ns.map .int)), e1, e2, e3, some (.tup [.str "+YYYYYYYYYYYY", .str "-XXXXXXXXXXXX", .str "+YYYYYYYYYYYY", .str "-XXXXXXXXXXXX", .str "+YYYYYYYYYYYY", .str "-XXXXXXXXXXXX", .str "+YYYYYYYYYYYY", .str "-XXXXXXXXXXXX", .str "+YYYYYYYYYYYY", .str "-XXXXXXXXXXXX", .str "+YYYYYYYYYYYY", .str "-XXXXXXXXXXXX", .str "+YYYYYYYYYYYY", .str "-XXXXXXXXXXXX", .str "+YYYYYYYYYYYY", .str "-XXXXXXXXXXXX", .str "+YYYYYYYYYYYY", .str "-XXXXXXXXXXXX", .str "+YYYYYYYYYYYY", .str "-XXXXXXXXXXXX", .str "+YYYYYYYYYYYY", .str "-XXXXXXXXXXXX", .str "+YYYYYYYYYYYY", .str "-XXXXXXXXXXXX"]), some (.cel 2)] [d3 p0 q0 s0, d3 p1 q1 s1, O.lst [.tup [.str "fine"], .tup [.str "fine"]]] := by kernel_rfl
theorem rest_2_5 {ns : List Int} {e1 e2 e3 : Option D} {p0 q0 s0 p1 q1 s1 : Int} : n_law_5 [some (.rol (ns.map .int)), e1, e2, e3, some (.tup [.str "+YYYYYYYYYYYY", .str "-XXXXXXXXXXXX", .str "+YYYYYYYYYYYY", .str "-XXXXXXXXXXXX", .str "+YYYYYYYYYYYY", .str "-XXXXXXXXXXXX", .str "+YYYYYYYYYYYY", .str "-XXXXXXXXXXXX", .str "+YYYYYYYYYYYY", .str "-XXXXXXXXXXXX", .str "+YYYYYYYYYYYY", .str "-XXXXXXXXXXXX", .str "+YYYYYYYYYYYY", .str "-XXXXXXXXXXXX", .str "+YYYYYYYYYYYY", .str "-XXXXXXXXXXXX", .str "+YYYYYYYYYYYY", .str "-XXXXXXXXXXXX", .str "+YYYYYYYYYYYY", .str "-XXXXXXXXXXXX", .str "+YYYYYYYYYYYY", .str "-XXXXXXXXXXXX", .str "+YYYYYYYYYYYY", .str "-XXXXXXXXXXXX"]), some (.cel 2)] [d3 p0 q0 s0, d3 p1 q1 s1, O.lst [.tup [.str "fine"], .tup [.str "fine"]]] = .rt (.bl true) [d3 p0 q0 s0, d3 p1 q1 s1, O.lst [.tup [.str "fine"], .tup [.str "fine"]]] := by kernel_rfl
theorem rest_2 {ns : List Int} {e1 e2 e3 : Option D} {p0 q0 s0 p1 q1 s1 : Int} : Runs ((sSeq n_law_1 (sSeq n_law_2 (sSeq n_law_3 (sSeq n_law_4 (sSeq n_law_5 sPass))))) [some (.rol (ns.map .int)), e1, e2, e3, none, none] [d3 p0 q0 s0, d3 p1 q1 s1]) fun d _ => d = .bl true := by
  refine Den.step (env1 := [some (.rol (ns.map .int)), e1, e2, e3, some (.tup [.str "+YYYYYYYYYYYY", .str "-XXXXXXXXXXXX", .str "+YYYYYYYYYYYY", .str "-XXXXXXXXXXXX", .str "+YYYYYYYYYYYY", .str "-XXXXXXXXXXXX", .str "+YYYYYYYYYYYY", .str "-XXXXXXXXXXXX", .str "+YYYYYYYYYYYY", .str "-XXXXXXXXXXXX", .str "+YYYYYYYYYYYY", .str "-XXXXXXXXXXXX", .str "+YYYYYYYYYYYY", .str "-XXXXXXXXXXXX", .str "+YYYYYYYYYYYY", .str "-XXXXXXXXXXXX", .str "+YYYYYYYYYYYY", .str "-XXXXXXXXXXXX", .str "+YYYYYYYYYYYY", .str "-XXXXXXXXXXXX", .str "+YYYYYYYYYYYY", .str "-XXXXXXXXXXXX", .str "+YYYYYYYYYYYY", .str "-XXXXXXXXXXXX"]), none]) (st1 := [d3 p0 q0 s0, d3 p1 q1 s1]) rest_2_1 ?_
  refine Den.step (env1 := [some (.rol (ns.map .int)), e1, e2, e3, some (.tup [.str "+YYYYYYYYYYYY", .str "-XXXXXXXXXXXX", .str "+YYYYYYYYYYYY", .str "-XXXXXXXXXXXX", .str "+YYYYYYYYYYYY", .str "-XXXXXXXXXXXX", .str "+YYYYYYYYYYYY", .str "-XXXXXXXXXXXX", .str "+YYYYYYYYYYYY", .str "-XXXXXXXXXXXX", .str "+YYYYYYYYYYYY", .str "-XXXXXXXXXXXX", .str "+YYYYYYYYYYYY", .str "-XXXXXXXXXXXX", .str "+YYYYYYYYYYYY", .str "-XXXXXXXXXXXX", .str "+YYYYYYYYYYYY", .str "-XXXXXXXXXXXX", .str "+YYYYYYYYYYYY", .str "-XXXXXXXXXXXX", .str "+YYYYYYYYYYYY", .str "-XXXXXXXXXXXX", .str "+YYYYYYYYYYYY", .str "-XXXXXXXXXXXX"]), some (.cel 2)]) (st1 := [d3 p0 q0 s0, d3 p1 q1 s1, O.lst [.tup [.str "fine"]]]) rest_2_2 ?_
  refine Den.step (env1 := [some (.rol (ns.map .int)), e1, e2, e3, some (.tup [.str "+YYYYYYYYYYYY", .str "-XXXXXXXXXXXX", .str "+YYYYYYYYYYYY", .str "-XXXXXXXXXXXX", .str "+YYYYYYYYYYYY", .str "-XXXXXXXXXXXX", .str "+YYYYYYYYYYYY", .str "-XXXXXXXXXXXX", .str "+YYYYYYYYYYYY", .str "-XXXXXXXXXXXX", .str "+YYYYYYYYYYYY", .str "-XXXXXXXXXXXX", .str "+YYYYYYYYYYYY", .str "-XXXXXXXXXXXX", .str "+YYYYYYYYYYYY", .str "-XXXXXXXXXXXX", .str "+YYYYYYYYYYYY", .str "-XXXXXXXXXXXX", .str "+YYYYYYYYYYYY", .str "-XXXXXXXXXXXX", .str "+YYYYYYYYYYYY", .str "-XXXXXXXXXXXX", .str "+YYYYYYYYYYYY", .str "-XXXXXXXXXXXX"]), some (.cel 2)]) (st1 := [d3 p0 q0 s0, d3 p1 q1 s1, O.lst [.tup [.str "fine"], .tup [.str "fine"]]]) rest_2_3 ?_
  refine Den.step (env1 := [some (.rol (ns.map .int)), e1, e2, e3, some (.tup [.str "+YYYYYYYYYYYY", .str "-XXXXXXXXXXXX", .str "+YYYYYYYYYYYY", .str "-XXXXXXXXXXXX", .str "+YYYYYYYYYYYY", .str "-XXXXXXXXXXXX", .str "+YYYYYYYYYYYY", .str "-XXXXXXXXXXXX", .str "+YYYYYYYYYYYY", .str "-XXXXXXXXXXXX", .str "+YYYYYYYYYYYY", .str "-XXXXXXXXXXXX", .str "+YYYYYYYYYYYY", .str "-XXXXXXXXXXXX", .str "+YYYYYYYYYYYY", .str "-XXXXXXXXXXXX", .str "+YYYYYYYYYYYY", .str "-XXXXXXXXXXXX", .str "+YYYYYYYYYYYY", .str "-XXXXXXXXXXXX", .str "+YYYYYYYYYYYY", .str "-XXXXXXXXXXXX", .str "+YYYYYYYYYYYY", .str "-XXXXXXXXXXXX"]), some (.cel 2)]) (st1 := [d3 p0 q0 s0, d3 p1 q1 s1, O.lst [.tup [.str "fine"], .tup [.str "fine"]]]) rest_2_4 ?_
  exact rets rest_2_5 rfl
theorem rest_3_1 {ns : List Int} {e1 e2 e3 : Option D} {p0 q0 s0 p1 q1 s1 p2 q2 s2 : Int} : n_law_1 [some (.rol (ns.map .int)), e1, e2, e3, none, none] [d3 p0 q0 s0, d3 p1 q1 s1, d3 p2 q2 s2] = .nx [some (.rol (ns.map .int)), e1, e2, e3, some (.tup [.str "+YYYYYYYYYYYY", .str "-XXXXXXXXXXXX", .str "+YYYYYYYYYYYY", .str "-XXXXXXXXXXXX", .str "+YYYYYYYYYYYY", .str "-XXXXXXXXXXXX", .str "+YYYYYYYYYYYY", .str "-XXXXXXXXXXXX", .str "+YYYYYYYYYYYY", .str "-XXXXXXXXXXXX", .str "+YYYYYYYYYYYY", .str "-XXXXXXXXXXXX", .str "+YYYYYYYYYYYY", .str "-XXXXXXXXXXXX", .str "+YYYYYYYYYYYY", .str "-XXXXXXXXXXXX", .str "+YYYYYYYYYYYY", .str "-XXXXXXXXXXXX", .str "+YYYYYYYYYYYY", .str "-XXXXXXXXXXXX", .str "+YYYYYYYYYYYY", .str "-XXXXXXXXXXXX", .str "+YYYYYYYYYYYY", .str "-XXXXXXXXXXXX"]), none] [d3 p0 q0 s0, d3 p1 q1 s1, d3 p2 q2 s2] := by kernel_rfl
theorem rest_3_2 {ns : List Int} {e1 e2 e3 : Option D} {p0 q0 s0 p1 q1 s1 p2 q2 s2 : Int} : n_law_2 [some (.rol (ns.map .int)), e1, e2, e3, some (.tup [.str "+YYYYYYYYYYYY", .str "-XXXXXXXXXXXX", .str "+YYYYYYYYYYYY", .str "-XXXXXXXXXXXX", .str "+YYYYYYYYYYYY", .str "-XXXXXXXXXXXX", .str "+YYYYYYYYYYYY", .str "-XXXXXXXXXXXX", .str "+YYYYYYYYYYYY", .str "-XXXXXXXXXXXX", .str "+YYYYYYYYYYYY", .str "-XXXXXXXXXXXX", .str "+YYYYYYYYYYYY", .str "-XXXXXXXXXXXX", .str "+YYYYYYYYYYYY", .str "-XXXXXXXXXXXX", .str "+YYYYYYYYYYYY", .str "-XXXXXXXXXXXX", .str "+YYYYYYYYYYYY", .str "-XXXXXXXXXXXX", .str "+YYYYYYYYYYYY", .str "-XXXXXXXXXXXX", .str "+YYYYYYYYYYYY", .str "-XXXXXXXXXXXX"]), none] [d3 p0 q0 s0, d3 p1 q1 s1, d3 p2 q2 s2] = .nx [some (.rol (ns.map .int)), e1, e2, e3, some (.tup [.str "+YYYYYYYYYYYY", .str "-XXXXXXXXXXXX", .str "+YYYYYYYYYYYY", .str "-XXXXXXXXXXXX", .str "+YYYYYYYYYYYY", .str "-XXXXXXXXXXXX", .str "+YYYYYYYYYYYY", .str "-XXXXXXXXXXXX", .str "+YYYYYYYYYYYY", .str "-XXXXXXXXXXXX", .str "+YYYYYYYYYYYY", .str "-XXXXXXXXXXXX", .str "+YYYYYYYYYYYY", .str "-XXXXXXXXXXXX", .str "+YYYYYYYYYYYY", .str "-XXXXXXXXXXXX", .str "+YYYYYYYYYYYY", .str "-XXXXXXXXXXXX", .str "+YYYYYYYYYYYY", .str "-XXXXXXXXXXXX", .str "+YYYYYYYYYYYY", .str "-XXXXXXXXXXXX", .str "+YYYYYYYYYYYY", .str "-XXXXXXXXXXXX"]), some (.cel 3)] [d3 p0 q0 s0, d3 p1 q1 s1, d3 p2 q2 s2, O.lst [.tup [.str "fine"]]] := by kernel_rfl
theorem rest_3_3 {ns : List Int} {e1 e2 e3 : Option D} {p0 q0 s0 p1 q1 s1 p2 q2 s2 : Int} : n_law_3 [some (.rol (ns.map .int)), e1, e2, e3, some (.tup [.str "+YYYYYYYYYYYY", .str "-XXXXXXXXXXXX", .str "+YYYYYYYYYYYY", .str "-XXXXXXXXXXXX", .str "+YYYYYYYYYYYY", .str "-XXXXXXXXXXXX", .str "+YYYYYYYYYYYY", .str "-XXXXXXXXXXXX", .str "+YYYYYYYYYYYY", .str "-XXXXXXXXXXXX", .str "+YYYYYYYYYYYY", .str "-XXXXXXXXXXXX", .str "+YYYYYYYYYYYY", .str "-XXXXXXXXXXXX", .str "+YYYYYYYYYYYY", .str "-XXXXXXXXXXXX", .str "+YYYYYYYYYYYY", .str "-XXXXXXXXXXXX", .str "+YYYYYYYYYYYY", .str "-XXXXXXXXXXXX", .str "+YYYYYYYYYYYY", .str "-XXXXXXXXXXXX", .str "+YYYYYYYYYYYY", .str "-XXXXXXXXXXXX"]), some (.cel 3)] [d3 p0 q0 s0, d3 p1 q1 s1, d3 p2 q2 s2, O.lst [.tup [.str "fine"]]] = .nx [some (.rol (ns.map .int)), e1, e2, e3, some (.tup [.str "+YYYYYYYYYYYY", .str "-XXXXXXXXXXXX", .str "+YYYYYYYYYYYY", .str "-XXXXXXXXXXXX", .str "+YYYYYYYYYYYY", .str "-XXXXXXXXXXXX", .str "+YYYYYYYYYYYY", .str "-XXXXXXXXXXXX", .str "+YYYYYYYYYYYY", .str "-XXXXXXXXXXXX", .str "+YYYYYYYYYYYY", .str "-XXXXXXXXXXXX", .str "+YYYYYYYYYYYY", .str "-XXXXXXXXXXXX", .str "+YYYYYYYYYYYY", .str "-XXXXXXXXXXXX", .str "+YYYYYYYYYYYY", .str "-XXXXXXXXXXXX", .str "+YYYYYYYYYYYY", .str "-XXXXXXXXXXXX", .str "+YYYYYYYYYYYY", .str "-XXXXXXXXXXXX", .str "+YYYYYYYYYYYY", .str "-XXXXXXXXXXXX"]), some (.cel 3)] [d3 p0 q0 s0, d3 p1 q1 s1, d3 p2 q2 s2, O.lst [.tup [.str "fine"], .tup [.str "fine"]]] := by kernel_rfl
theorem rest_3_4 {ns : List Int} {e1 e2 e3 : Option D} {p0 q0 s0 p1 q1 s1 p2 q2 s2 : Int} : n_law_4 [some (.rol (ns.map .int)), e1, e2, e3, some (.tup [.str "+YYYYYYYYYYYY", .str "-XXXXXXXXXXXX", .str "+YYYYYYYYYYYY", .str "-XXXXXXXXXXXX", .str "+YYYYYYYYYYYY", .str "-XXXXXXXXXXXX", .str "+YYYYYYYYYYYY", .str "-XXXXXXXXXXXX", .str "+YYYYYYYYYYYY", .str "-XXXXXXXXXXXX", .str "+YYYYYYYYYYYY", .str "-XXXXXXXXXXXX", .str "+YYYYYYYYYYYY", .str "-XXXXXXXXXXXX", .str "+YYYYYYYYYYYY", .str "-XXXXXXXXXXXX", .str "+YYYYYYYYYYYY", .str "-XXXXXXXXXXXX", .str "+YYYYYYYYYYYY", .str "-XXXXXXXXXXXX", .str "+YYYYYYYYYYYY", .str "-XXXXXXXXXXXX", .str "+YYYYYYYYYYYY", .str "-XXXXXXXXXXXX"]), some (.cel 3)] [d3 p0 q0 s0, d3 p1 q1 s1, d3 p2 q2 s2, O.lst [.tup [.str "fine"], .tup [.str "fine"]]] = .nx [some (.rol (ns.map .int)), e1, e2, e3, some (.tup [.str "+YYYYYYYYYYYY", .str "-XXXXXXXXXXXX", .str "+YYYYYYYYYYYY", .str "-XXXXXXXXXXXX", .str "+YYYYYYYYYYYY", .str "-XXXXXXXXXXXX", .str "+YYYYYYYYYYYY", .str "-XXXXXXXXXXXX", .str "+YYYYYYYYYYYY", .str "-XXXXXXXXXXXX", .str "+YYYYYYYYYYYY", .str "-XXXXXXXXXXXX", .str "+YYYYYYYYYYYY", .str "-XXXXXXXXXXXX", .str "+YYYYYYYYYYYY", .str "-XXXXXXXXXXXX", .str "+YYYYYYYYYYYY", .str "-XXXXXXXXXXXX", .str "+YYYYYYYYYYYY", .str "-XXXXXXXXXXXX", .str "+YYYYYYYYYYYY", .str "-XXXXXXXXXXXX", .str "+YYYYYYYYYYYY", .str "-XXXXXXXXXXXX"]), some (.cel 3)] [d3 p0 q0 s0, d3 p1 q1 s1, d3 p2 q2 s2, O.lst [.tup [.str "fine"], .tup [.str "fine"]]] := by kernel_rfl
theorem rest_3_5 {ns : List Int} {e1 e2 e3 : Option D} {p0 q0 s0 p1 q1 s1 p2 q2 s2 : Int} : n_law_5 [some (.rol (ns.map .int)), e1, e2, e3, some (.tup [.str "+YYYYYYYYYYYY", .str "-XXXXXXXXXXXX", .str "+YYYYYYYYYYYY", .str "-XXXXXXXXXXXX", .str "+YYYYYYYYYYYY", .str "-XXXXXXXXXXXX", .str "+YYYYYYYYYYYY", .str "-XXXXXXXXXXXX", .str "+YYYYYYYYYYYY", .str "-XXXXXXXXXXXX", .str "+YYYYYYYYYYYY", .str "-XXXXXXXXXXXX", .str "+YYYYYYYYYYYY", .str "-XXXXXXXXXXXX", .str "+YYYYYYYYYYYY", .str "-XXXXXXXXXXXX", .str "+YYYYYYYYYYYY", .str "-XXXXXXXXXXXX", .str "+YYYYYYYYYYYY", .str "-XXXXXXXXXXXX", .str "+YYYYYYYYYYYY", .str "-XXXXXXXXXXXX", .str "+YYYYYYYYYYYY", .str "-XXXXXXXXXXXX"]), some (.cel 3)] [d3 p0 q0 s0, d3 p1 q1 s1, d3 p2 q2 s2, O.lst [.tup [.str "fine"], .tup [.str "fine"]]] = .rt (.bl true) [d3 p0 q0 s0, d3 p1 q1 s1, d3 p2 q2 s2, O.lst [.tup [.str "fine"], .tup [.str "fine"]]] := by kernel_rfl
theorem rest_3 {ns : List Int} {e1 e2 e3 : Option D} {p0 q0 s0 p1 q1 s1 p2 q2 s2 : Int} : Runs ((sSeq n_law_1 (sSeq n_law_2 (sSeq n_law_3 (sSeq n_law_4 (sSeq n_law_5 sPass))))) [some (.rol (ns.map .int)), e1, e2, e3, none, none] [d3 p0 q0 s0, d3 p1 q1 s1, d3 p2 q2 s2]) fun d _ => d = .bl true := by
  refine Den.step (env1 := [some (.rol (ns.map .int)), e1, e2, e3, some (.tup [.str "+YYYYYYYYYYYY", .str "-XXXXXXXXXXXX", .str "+YYYYYYYYYYYY", .str "-XXXXXXXXXXXX", .str "+YYYYYYYYYYYY", .str "-XXXXXXXXXXXX", .str "+YYYYYYYYYYYY", .str "-XXXXXXXXXXXX", .str "+YYYYYYYYYYYY", .str "-XXXXXXXXXXXX", .str "+YYYYYYYYYYYY", .str "-XXXXXXXXXXXX", .str "+YYYYYYYYYYYY", .str "-XXXXXXXXXXXX", .str "+YYYYYYYYYYYY", .str "-XXXXXXXXXXXX", .str "+YYYYYYYYYYYY", .str "-XXXXXXXXXXXX", .str "+YYYYYYYYYYYY", .str "-XXXXXXXXXXXX", .str "+YYYYYYYYYYYY", .str "-XXXXXXXXXXXX", .str "+YYYYYYYYYYYY", .str "-XXXXXXXXXXXX"]), none]) (st1 := [d3 p0 q0 s0, d3 p1 q1 s1, d3 p2 q2 s2]) rest_3_1 ?_
  refine Den.step (env1 := [some (.rol (ns.map .int)), e1, e2, e3, some (.tup [.str "+YYYYYYYYYYYY", .str "-XXXXXXXXXXXX", .str "+YYYYYYYYYYYY", .str "-XXXXXXXXXXXX", .str "+YYYYYYYYYYYY", .str "-XXXXXXXXXXXX", .str "+YYYYYYYYYYYY", .str "-XXXXXXXXXXXX", .str "+YYYYYYYYYYYY", .str "-XXXXXXXXXXXX", .str "+YYYYYYYYYYYY", .str "-XXXXXXXXXXXX", .str "+YYYYYYYYYYYY", .str "-XXXXXXXXXXXX", .str "+YYYYYYYYYYYY", .str "-XXXXXXXXXXXX", .str "+YYYYYYYYYYYY", .str "-XXXXXXXXXXXX", .str "+YYYYYYYYYYYY", .str "-XXXXXXXXXXXX", .str "+YYYYYYYYYYYY", .str "-XXXXXXXXXXXX", .str "+YYYYYYYYYYYY", .str "-XXXXXXXXXXXX"]), some (.cel 3)]) (st1 := [d3 p0 q0 s0, d3 p1 q1 s1, d3 p2 q2 s2, O.lst [.tup [.str "fine"]]]) rest_3_2 ?_
  refine Den.step (env1 := [some (.rol (ns.map .int)), e1, e2, e3, some (.tup [.str "+YYYYYYYYYYYY", .str "-XXXXXXXXXXXX", .str "+YYYYYYYYYYYY", .str "-XXXXXXXXXXXX", .str "+YYYYYYYYYYYY", .str "-XXXXXXXXXXXX", .str "+YYYYYYYYYYYY", .str "-XXXXXXXXXXXX", .str "+YYYYYYYYYYYY", .str "-XXXXXXXXXXXX", .str "+YYYYYYYYYYYY", .str "-XXXXXXXXXXXX", .str "+YYYYYYYYYYYY", .str "-XXXXXXXXXXXX", .str "+YYYYYYYYYYYY", .str "-XXXXXXXXXXXX", .str "+YYYYYYYYYYYY", .str "-XXXXXXXXXXXX", .str "+YYYYYYYYYYYY", .str "-XXXXXXXXXXXX", .str "+YYYYYYYYYYYY", .str "-XXXXXXXXXXXX", .str "+YYYYYYYYYYYY", .str "-XXXXXXXXXXXX"]), some (.cel 3)]) (st1 := [d3 p0 q0 s0, d3 p1 q1 s1, d3 p2 q2 s2, O.lst [.tup [.str "fine"], .tup [.str "fine"]]]) rest_3_3 ?_
  refine Den.step (env1 := [some (.rol (ns.map .int)), e1, e2, e3, some (.tup [.str "+YYYYYYYYYYYY", .str "-XXXXXXXXXXXX", .str "+YYYYYYYYYYYY", .str "-XXXXXXXXXXXX", .str "+YYYYYYYYYYYY", .str "-XXXXXXXXXXXX", .str "+YYYYYYYYYYYY", .str "-XXXXXXXXXXXX", .str "+YYYYYYYYYYYY", .str "-XXXXXXXXXXXX", .str "+YYYYYYYYYYYY", .str "-XXXXXXXXXXXX", .str "+YYYYYYYYYYYY", .str "-XXXXXXXXXXXX", .str "+YYYYYYYYYYYY", .str "-XXXXXXXXXXXX", .str "+YYYYYYYYYYYY", .str "-XXXXXXXXXXXX", .str "+YYYYYYYYYYYY", .str "-XXXXXXXXXXXX", .str "+YYYYYYYYYYYY", .str "-XXXXXXXXXXXX", .str "+YYYYYYYYYYYY", .str "-XXXXXXXXXXXX"]), some (.cel 3)]) (st1 := [d3 p0 q0 s0, d3 p1 q1 s1, d3 p2 q2 s2, O.lst [.tup [.str "fine"], .tup [.str "fine"]]]) rest_3_4 ?_
  exact rets rest_3_5 rfl
theorem rest_4_1 {ns : List Int} {e1 e2 e3 : Option D} {p0 q0 s0 p1 q1 s1 p2 q2 s2 p3 q3 s3 : Int} : n_law_1 [some (.rol (ns.map .int)), e1, e2, e3, none, none] [d3 p0 q0 s0, d3 p1 q1 s1, d3 p2 q2 s2, d3 p3 q3 s3] = .nx [some (.rol (ns.map .int)), e1, e2, e3, some (.tup [.str "+YYYYYYYYYYYY", .str "-XXXXXXXXXXXX", .str "+YYYYYYYYYYYY", .str "-XXXXXXXXXXXX", .str "+YYYYYYYYYYYY", .str "-XXXXXXXXXXXX", .str "+YYYYYYYYYYYY", .str "-XXXXXXXXXXXX", .str "+YYYYYYYYYYYY", .str "-XXXXXXXXXXXX", .str "+YYYYYYYYYYYY", .str "-XXXXXXXXXXXX", .str "+YYYYYYYYYYYY", .str "-XXXXXXXXXXXX", .str "+YYYYYYYYYYYY", .str "-XXXXXXXXXXXX", .str "+YYYYYYYYYYYY", .str "-XXXXXXXXXXXX", .str "+YYYYYYYYYYYY", .str "-XXXXXXXXXXXX", .str "+YYYYYYYYYYYY", .str "-XXXXXXXXXXXX", .str "+YYYYYYYYYYYY", .str "-XXXXXXXXXXXX"]), none] [d3 p0 q0 s0, d3 p1 q1 s1, d3 p2 q2 s2, d3 p3 q3 s3] := by kernel_rfl
theorem rest_4_2 {ns : List Int} {e1 e2 e3 : Option D} {p0 q0 s0 p1 q1 s1 p2 q2 s2 p3 q3 s3 : Int} : n_law_2 [some (.rol (ns.map .int)), e1, e2, e3, some (.tup [.str "+YYYYYYYYYYYY", .str "-XXXXXXXXXXXX", .str "+YYYYYYYYYYYY", .str "-XXXXXXXXXXXX", .str "+YYYYYYYYYYYY", .str "-XXXXXXXXXXXX", .str "+YYYYYYYYYYYY", .str "-XXXXXXXXXXXX", .str "+YYYYYYYYYYYY", .str "-XXXXXXXXXXXX", .str "+YYYYYYYYYYYY", .str "-XXXXXXXXXXXX", .str "+YYYYYYYYYYYY", .str "-XXXXXXXXXXXX", .str "+YYYYYYYYYYYY", .str "-XXXXXXXXXXXX", .str "+YYYYYYYYYYYY", .str "-XXXXXXXXXXXX", .str "+YYYYYYYYYYYY", .str "-XXXXXXXXXXXX", .str "+YYYYYYYYYYYY", .str "-XXXXXXXXXXXX", .str "+YYYYYYYYYYYY", .str "-XXXXXXXXXXXX"]), none] [d3 p0 q0 s0, d3 p1 q1 s1, d3 p2 q2 s2, d3 p3 q3 s3] = .nx [some (.rol (ns.map .int)), e1, e2, e3, some (.tup [.str "+YYYYYYYYYYYY", .str "-XXXXXXXXXXXX", .str "+YYYYYYYYYYYY", .str "-XXXXXXXXXXXX", .str "+YYYYYYYYYYYY", .str "-XXXXXXXXXXXX", .str "+YYYYYYYYYYYY", .str "-XXXXXXXXXXXX", .str "+YYYYYYYYYYYY", .str "-XXXXXXXXXXXX", .str "+YYYYYYYYYYYY", .str "-XXXXXXXXXXXX", .str "+YYYYYYYYYYYY", .str "-XXXXXXXXXXXX", .str "+YYYYYYYYYYYY", .str "-XXXXXXXXXXXX", .str "+YYYYYYYYYYYY", .str "-XXXXXXXXXXXX", .str "+YYYYYYYYYYYY", .str "-XXXXXXXXXXXX", .str "+YYYYYYYYYYYY", .str "-XXXXXXXXXXXX", .str "+YYYYYYYYYYYY", .str "-XXXXXXXXXXXX"]), some (.cel 4)] [d3 p0 q0 s0, d3 p1 q1 s1, d3 p2 q2 s2, d3 p3 q3 s3, O.lst [.tup [.str "fine"]]] := by kernel_rfl
theorem rest_4_3 {ns : List Int} {e1 e2 e3 : Option D} {p0 q0 s0 p1 q1 s1 p2 q2 s2 p3 q3 s3 : Int} : n_law_3 [some (.rol (ns.map .int)), e1, e2, e3, some (.tup [.str "+YYYYYYYYYYYY", .str "-XXXXXXXXXXXX", .str "+YYYYYYYYYYYY", .str "-XXXXXXXXXXXX", .str "+YYYYYYYYYYYY", .str "-XXXXXXXXXXXX", .str "+YYYYYYYYYYYY", .str "-XXXXXXXXXXXX", .str "+YYYYYYYYYYYY", .str "-XXXXXXXXXXXX", .str "+YYYYYYYYYYYY", .str "-XXXXXXXXXXXX", .str "+YYYYYYYYYYYY", .str "-XXXXXXXXXXXX", .str "+YYYYYYYYYYYY", .str "-XXXXXXXXXXXX", .str "+YYYYYYYYYYYY", .str "-XXXXXXXXXXXX", .str "+YYYYYYYYYYYY", .str "-XXXXXXXXXXXX", .str "+YYYYYYYYYYYY", .str "-XXXXXXXXXXXX", .str "+YYYYYYYYYYYY", .str "-XXXXXXXXXXXX"]), some (.cel 4)] [d3 p0 q0 s0, d3 p1 q1 s1, d3 p2 q2 s2, d3 p3 q3 s3, O.lst [.tup [.str "fine"]]] = .nx [some (.rol (ns.map .int)), e1, e2, e3, some (.tup [.str "+YYYYYYYYYYYY", .str "-XXXXXXXXXXXX", .str "+YYYYYYYYYYYY", .str "-XXXXXXXXXXXX", .str "+YYYYYYYYYYYY", .str "-XXXXXXXXXXXX", .str "+YYYYYYYYYYYY", .str "-XXXXXXXXXXXX", .str "+YYYYYYYYYYYY", .str "-XXXXXXXXXXXX", .str "+YYYYYYYYYYYY", .str "-XXXXXXXXXXXX", .str "+YYYYYYYYYYYY", .str "-XXXXXXXXXXXX", .str "+YYYYYYYYYYYY", .str "-XXXXXXXXXXXX", .str "+YYYYYYYYYYYY", .str "-XXXXXXXXXXXX", .str "+YYYYYYYYYYYY", .str "-XXXXXXXXXXXX", .str "+YYYYYYYYYYYY", .str "-XXXXXXXXXXXX", .str "+YYYYYYYYYYYY", .str "-XXXXXXXXXXXX"]), some (.cel 4)] [d3 p0 q0 s0, d3 p1 q1 s1, d3 p2 q2 s2, d3 p3 q3 s3, O.lst [.tup [.str "fine"], .tup [.str "fine"]]] := by kernel_rfl
theorem rest_4_4 {ns : List Int} {e1 e2 e3 : Option D} {p0 q0 s0 p1 q1 s1 p2 q2 s2 p3 q3 s3 : Int} : n_law_4 [some (.rol (ns.map .int)), e1, e2, e3, some (.tup [.str "+YYYYYYYYYYYY", .str "-XXXXXXXXXXXX", .str "+YYYYYYYYYYYY", .str "-XXXXXXXXXXXX", .str "+YYYYYYYYYYYY", .str "-XXXXXXXXXXXX", .str "+YYYYYYYYYYYY", .str "-XXXXXXXXXXXX", .str "+YYYYYYYYYYYY", .str "-XXXXXXXXXXXX", .str "+YYYYYYYYYYYY", .str "-XXXXXXXXXXXX", .str "+YYYYYYYYYYYY", .str "-XXXXXXXXXXXX", .str "+YYYYYYYYYYYY", .str "-XXXXXXXXXXXX", .str "+YYYYYYYYYYYY", .str "-XXXXXXXXXXXX", .str "+YYYYYYYYYYYY", .str "-XXXXXXXXXXXX", .str "+YYYYYYYYYYYY", .str "-XXXXXXXXXXXX", .str "+YYYYYYYYYYYY", .str "-XXXXXXXXXXXX"]), some (.cel 4)] [d3 p0 q0 s0, d3 p1 q1 s1, d3 p2 q2 s2, d3 p3 q3 s3, O.lst [.tup [.str "fine"], .tup [.str "fine"]]] = .nx [some (.rol (ns.map .int)), e1, e2, e3, some (.tup [.str "+YYYYYYYYYYYY", .str "-XXXXXXXXXXXX", .str "+YYYYYYYYYYYY", .str "-XXXXXXXXXXXX", .str "+YYYYYYYYYYYY", .str "-XXXXXXXXXXXX", .str "+YYYYYYYYYYYY", .str "-XXXXXXXXXXXX", .str "+YYYYYYYYYYYY", .str "-XXXXXXXXXXXX", .str "+YYYYYYYYYYYY", .str "-XXXXXXXXXXXX", .str "+YYYYYYYYYYYY", .str "-XXXXXXXXXXXX", .str "+YYYYYYYYYYYY", .str "-XXXXXXXXXXXX", .str "+YYYYYYYYYYYY", .str "-XXXXXXXXXXXX", .str "+YYYYYYYYYYYY", .str "-XXXXXXXXXXXX", .str "+YYYYYYYYYYYY", .str "-XXXXXXXXXXXX", .str "+YYYYYYYYYYYY", .str "-XXXXXXXXXXXX"]), some (.cel 4)] [d3 p0 q0 s0, d3 p1 q1 s1, d3 p2 q2 s2, d3 p3 q3 s3, O.lst [.tup [.str "fine"], .tup [.str "fine"]]] := by kernel_rfl
theorem rest_4_5 {ns : List Int} {e1 e2 e3 : Option D} {p0 q0 s0 p1 q1 s1 p2 q2 s2 p3 q3 s3 : Int} : n_law_5 [some (.rol (ns.map .int)), e1, e2, e3, some (.tup [.str "+YYYYYYYYYYYY", .str "-XXXXXXXXXXXX", .str "+YYYYYYYYYYYY", .str "-XXXXXXXXXXXX", .str "+YYYYYYYYYYYY", .str "-XXXXXXXXXXXX", .str "+YYYYYYYYYYYY", .str "-XXXXXXXXXXXX", .str "+YYYYYYYYYYYY", .str "-XXXXXXXXXXXX", .str "+YYYYYYYYYYYY", .str "-XXXXXXXXXXXX", .str "+YYYYYYYYYYYY", .str "-XXXXXXXXXXXX", .str "+YYYYYYYYYYYY", .str "-XXXXXXXXXXXX", .str "+YYYYYYYYYYYY", .str "-XXXXXXXXXXXX", .str "+YYYYYYYYYYYY", .str "-XXXXXXXXXXXX", .str "+YYYYYYYYYYYY", .str "-XXXXXXXXXXXX", .str "+YYYYYYYYYYYY", .str "-XXXXXXXXXXXX"]), some (.cel 4)] [d3 p0 q0 s0, d3 p1 q1 s1, d3 p2 q2 s2, d3 p3 q3 s3, O.lst [.tup [.str "fine"], .tup [.str "fine"]]] = .rt (.bl true) [d3 p0 q0 s0, d3 p1 q1 s1, d3 p2 q2 s2, d3 p3 q3 s3, O.lst [.tup [.str "fine"], .tup [.str "fine"]]] := by kernel_rfl
theorem rest_4 {ns : List Int} {e1 e2 e3 : Option D} {p0 q0 s0 p1 q1 s1 p2 q2 s2 p3 q3 s3 : Int} : Runs ((sSeq n_law_1 (sSeq n_law_2 (sSeq n_law_3 (sSeq n_law_4 (sSeq n_law_5 sPass))))) [some (.rol (ns.map .int)), e1, e2, e3, none, none] [d3 p0 q0 s0, d3 p1 q1 s1, d3 p2 q2 s2, d3 p3 q3 s3]) fun d _ => d = .bl true := by
  refine Den.step (env1 := [some (.rol (ns.map .int)), e1, e2, e3, some (.tup [.str "+YYYYYYYYYYYY", .str "-XXXXXXXXXXXX", .str "+YYYYYYYYYYYY", .str "-XXXXXXXXXXXX", .str "+YYYYYYYYYYYY", .str "-XXXXXXXXXXXX", .str "+YYYYYYYYYYYY", .str "-XXXXXXXXXXXX", .str "+YYYYYYYYYYYY", .str "-XXXXXXXXXXXX", .str "+YYYYYYYYYYYY", .str "-XXXXXXXXXXXX", .str "+YYYYYYYYYYYY", .str "-XXXXXXXXXXXX", .str "+YYYYYYYYYYYY", .str "-XXXXXXXXXXXX", .str "+YYYYYYYYYYYY", .str "-XXXXXXXXXXXX", .str "+YYYYYYYYYYYY", .str "-XXXXXXXXXXXX", .str "+YYYYYYYYYYYY", .str "-XXXXXXXXXXXX", .str "+YYYYYYYYYYYY", .str "-XXXXXXXXXXXX"]), none]) (st1 := [d3 p0 q0 s0, d3 p1 q1 s1, d3 p2 q2 s2, d3 p3 q3 s3]) rest_4_1 ?_
  refine Den.step (env1 := [some (.rol (ns.map .int)), e1, e2, e3, some (.tup [.str "+YYYYYYYYYYYY", .str "-XXXXXXXXXXXX", .str "+YYYYYYYYYYYY", .str "-XXXXXXXXXXXX", .str "+YYYYYYYYYYYY", .str "-XXXXXXXXXXXX", .str "+YYYYYYYYYYYY", .str "-XXXXXXXXXXXX", .str "+YYYYYYYYYYYY", .str "-XXXXXXXXXXXX", .str "+YYYYYYYYYYYY", .str "-XXXXXXXXXXXX", .str "+YYYYYYYYYYYY", .str "-XXXXXXXXXXXX", .str "+YYYYYYYYYYYY", .str "-XXXXXXXXXXXX", .str "+YYYYYYYYYYYY", .str "-XXXXXXXXXXXX", .str "+YYYYYYYYYYYY", .str "-XXXXXXXXXXXX", .str "+YYYYYYYYYYYY", .str "-XXXXXXXXXXXX", .str "+YYYYYYYYYYYY", .str "-XXXXXXXXXXXX"]), some (.cel 4)]) (st1 := [d3 p0 q0 s0, d3 p1 q1 s1, d3 p2 q2 s2, d3 p3 q3 s3, O.lst [.tup [.str "fine"]]]) rest_4_2 ?_
  refine Den.step (env1 := [some (.rol (ns.map .int)), e1, e2, e3, some (.tup [.str "+YYYYYYYYYYYY", .str "-XXXXXXXXXXXX", .str "+YYYYYYYYYYYY", .str "-XXXXXXXXXXXX", .str "+YYYYYYYYYYYY", .str "-XXXXXXXXXXXX", .str "+YYYYYYYYYYYY", .str "-XXXXXXXXXXXX", .str "+YYYYYYYYYYYY", .str "-XXXXXXXXXXXX", .str "+YYYYYYYYYYYY", .str "-XXXXXXXXXXXX", .str "+YYYYYYYYYYYY", .str "-XXXXXXXXXXXX", .str "+YYYYYYYYYYYY", .str "-XXXXXXXXXXXX", .str "+YYYYYYYYYYYY", .str "-XXXXXXXXXXXX", .str "+YYYYYYYYYYYY", .str "-XXXXXXXXXXXX", .str "+YYYYYYYYYYYY", .str "-XXXXXXXXXXXX", .str "+YYYYYYYYYYYY", .str "-XXXXXXXXXXXX"]), some (.cel 4)]) (st1 := [d3 p0 q0 s0, d3 p1 q1 s1, d3 p2 q2 s2, d3 p3 q3 s3, O.lst [.tup [.str "fine"], .tup [.str "fine"]]]) rest_4_3 ?_
  refine Den.step (env1 := [some (.rol (ns.map .int)), e1, e2, e3, some (.tup [.str "+YYYYYYYYYYYY", .str "-XXXXXXXXXXXX", .str "+YYYYYYYYYYYY", .str "-XXXXXXXXXXXX", .str "+YYYYYYYYYYYY", .str "-XXXXXXXXXXXX", .str "+YYYYYYYYYYYY", .str "-XXXXXXXXXXXX", .str "+YYYYYYYYYYYY", .str "-XXXXXXXXXXXX", .str "+YYYYYYYYYYYY", .str "-XXXXXXXXXXXX", .str "+YYYYYYYYYYYY", .str "-XXXXXXXXXXXX", .str "+YYYYYYYYYYYY", .str "-XXXXXXXXXXXX", .str "+YYYYYYYYYYYY", .str "-XXXXXXXXXXXX", .str "+YYYYYYYYYYYY", .str "-XXXXXXXXXXXX", .str "+YYYYYYYYYYYY", .str "-XXXXXXXXXXXX", .str "+YYYYYYYYYYYY", .str "-XXXXXXXXXXXX"]), some (.cel 4)]) (st1 := [d3 p0 q0 s0, d3 p1 q1 s1, d3 p2 q2 s2, d3 p3 q3 s3, O.lst [.tup [.str "fine"], .tup [.str "fine"]]]) rest_4_4 ?_
  exact rets rest_4_5 rfl
theorem law_true : TrueAt c_law 63 := by
  intro ns hl _
  suffices main : Runs (n_law [some (.rol (ns.map .int)), none, none, none, none, none] []) fun d _ => d = .bl true by
    obtain ⟨d, st, e, rfl⟩ := main
    show ∃ st', popR 0 (match n_law [some (.rol (ns.map .int)), none, none, none, none, none] [] with
      | .nx _ st' => R.ok D.non st'
      | .rt d st' => .ok d st'
      | .ex x _ st' => .ex x st'
      | _ => .no) = .ok (.bl true) st'
    rw [e]
    simp only [popR]
    by_cases h : st.length = 0
    · exact ⟨st, by rw [if_pos h]⟩
    · exact ⟨st.take 0, by rw [if_neg h]; rfl⟩
  unfold n_law
  obtain ⟨k, hk, e⟩ := range_ev (ns := ns)
  obtain ⟨f1, f2, f3, l2, h2, q⟩ := loop_ev hl (List.range k) none none none [] (fun j hj => by have := List.mem_range.mp hj; omega)
  refine Den.step (Den.for_tup e q) ?_
  have h3 : l2.length ≤ 4 := by rw [h2, List.length_range]; simp; omega
  clear q h2 e
  cases l2 with
  | nil => exact rest_0
  | cons t0 l2 =>
  cases l2 with
  | nil => exact rest_1
  | cons t1 l2 =>
  cases l2 with
  | nil => exact rest_2
  | cons t2 l2 =>
  cases l2 with
  | nil => exact rest_3
  | cons t3 l2 =>
  cases l2 with
  | nil => exact rest_4
  | cons t4 l2 => exact absurd h3 (by simp only [List.length_cons]; omega)
end Law

namespace Law
open PySem PySem.Spec PyProof.Rows L2 RZ Den
/-! ### the end -/
def mkD (x : Str) (i : Nat) : He.DefD := ⟨(x, none), x, x, defArgs (topS i), defBody (topS i), defScope (topS i), [], []⟩
def mkM (x f : Str) (i j : Nat) : He.DefD := ⟨(x, some f), f, x ++ (("." : Str) ++ f), defArgs (inClass (topS i) j), defBody (inClass (topS i) j), defScope (inClass (topS i) j), [], []⟩
def fnl : List He.DefD := ([mkD "is_integer" 1, mkD "is_index" 2, mkD "has_size" 3, mkD "are_ascending" 4, mkD "has_form" 5, mkD "is_told" 6, mkD "mask_of" 12, mkD "row_of" 13, mkD "places_of" 14, mkD "pick_where" 15, mkD "ones" 16, mkD "put_down" 17, mkD "put_apart" 18, mkD "solved_masks" 19, mkD "pairs_of" 21, mkD "pairs_below" 22, mkD "is_operator" 28, mkD "are_operators" 29, mkD "check_operators" 30, mkD "check_row" 31, mkD "check_rows" 32, mkD "letter_bits" 33, mkD "letters_of" 34, mkD "form_of" 35, mkD "told_form" 36, mkD "form_times" 37, mkD "does_commute" 38, mkD "do_commute" 39, mkD "bits_of" 40, mkD "times_all" 41] : List He.DefD) ++ ([mkD "times" 42, mkD "with_sign" 43, mkD "product" 44, mkD "is_choice" 45, mkD "product_of" 46, mkD "turned_by" 47, mkD "quarter" 48, mkD "is_one" 49, mkD "is_unlike_pair" 50, mkD "is_unlike_lot" 51, mkD "bits_together" 52, mkD "relations" 53, mkD "some_unlike" 54, mkD "letters_apart" 55, mkD "turns_to" 56, mkD "led_by" 57, mkD "turns_between" 58, mkD "led_or_unlike" 59, mkD "are_turns" 60, mkD "is_led_or_unlike" 61, mkD "_law_dice" 63, mkD "_law_roll" 64, mkD "_law_pick" 65, mkD "_law_met" 66, mkD "_law_right" 67, mkD "law" 68] : List He.DefD)
def dnl : List Str := ([("is_integer" : Str), ("is_index" : Str), ("has_size" : Str), ("are_ascending" : Str), ("has_form" : Str), ("is_told" : Str), ("mask_of" : Str), ("row_of" : Str), ("places_of" : Str), ("pick_where" : Str), ("ones" : Str), ("put_down" : Str), ("put_apart" : Str), ("solved_masks" : Str), ("pairs_of" : Str), ("pairs_below" : Str), ("is_operator" : Str), ("are_operators" : Str), ("check_operators" : Str), ("check_row" : Str), ("check_rows" : Str), ("letter_bits" : Str), ("letters_of" : Str), ("form_of" : Str), ("told_form" : Str), ("form_times" : Str), ("does_commute" : Str), ("do_commute" : Str), ("bits_of" : Str), ("times_all" : Str)] : List Str) ++ ([("times" : Str), ("with_sign" : Str), ("product" : Str), ("is_choice" : Str), ("product_of" : Str), ("turned_by" : Str), ("quarter" : Str), ("is_one" : Str), ("is_unlike_pair" : Str), ("is_unlike_lot" : Str), ("bits_together" : Str), ("relations" : Str), ("some_unlike" : Str), ("letters_apart" : Str), ("turns_to" : Str), ("led_by" : Str), ("turns_between" : Str), ("led_or_unlike" : Str), ("are_turns" : Str), ("is_led_or_unlike" : Str), ("_law_dice" : Str), ("_law_roll" : Str), ("_law_pick" : Str), ("_law_met" : Str), ("_law_right" : Str), ("law" : Str)] : List Str)
def cnl : List Str := ([("SureError" : Str), ("InvalidOperator" : Str), ("InvalidOperation" : Str)] : List Str)
def tql : List (He.Defn × Str) := ([(("_law_right", none), lamQ (envOfC "_law_right" (defScope (topS 67)) 0 0 (.ref 0))), (("law", none), lamQ (envOfC "law" (defScope (topS 68)) 0 0 (.ref 0)))] : List (He.Defn × Str))
def TT (K : PySem.W.Frag) : Tab := { K := K, fad := fun n => He.ga K (dnl.getD n ""), cad := fun n => He.ga K (cnl.getD n ""), cfs := fun _ => [], xfs := xfs, xa := none, tbs := tbsOf K tql, lms := lms }
def fal : List He.Fa := ([.glo "InvalidOperation", .glo "InvalidOperator", .glo "LETTERS_BY_BITS", .int "MOST_LETTERS" 12, .int "MOST_OPERATORS" 24, .int "MOST_TURNS" 200, .glo "_law_dice", .glo "_law_met", .glo "_law_pick", .glo "_law_right", .glo "_law_roll", .free "abs", .free "all", .free "any", .glo "are_ascending", .glo "are_operators", .glo "are_turns", .glo "bits_of", .glo "bits_together", .free "bool", .glo "check_operators", .glo "check_row", .glo "check_rows", .glo "do_commute", .glo "does_commute", .free "enumerate", .glo "form_of", .glo "form_times", .glo "has_form", .glo "has_size"] : List He.Fa) ++ ([.free "int", .glo "is_choice", .glo "is_index", .glo "is_integer", .glo "is_led_or_unlike", .glo "is_one", .glo "is_operator", .glo "is_told", .glo "is_unlike_lot", .glo "is_unlike_pair", .free "isinstance", .glo "led_by", .glo "led_or_unlike", .free "len", .glo "letter_bits", .glo "letters_apart", .glo "letters_of", .free "list", .glo "mask_of", .free "max", .free "min", .glo "ones", .glo "pairs_below", .glo "pairs_of", .glo "pick_where", .glo "places_of", .glo "product", .glo "product_of", .glo "put_apart", .glo "put_down"] : List He.Fa) ++ ([.glo "quarter", .free "range", .glo "relations", .glo "row_of", .glo "solved_masks", .glo "some_unlike", .free "str", .free "sum", .glo "times", .glo "times_all", .glo "told_form", .free "tuple", .glo "turned_by", .glo "turns_between", .glo "turns_to", .glo "with_sign", .free "zip", .glo "law"] : List He.Fa)
def exl : List (PySem.W.Frag → Bool) := ([fun K => PySem.W.excIn K (He.ga K "InvalidOperation") [.type "ValueError", .type "Exception", .type "BaseException", .type "object"] "ValueError.__new__", fun K => PySem.W.keepIn K (.ref (He.ga K "InvalidOperation")), fun K => decide (PySem.W.subIn K (.ref (He.ga K "InvalidOperation")) (.type "BaseException") = some true), fun K => decide (PySem.W.typeIn K (.ref (He.ga K "InvalidOperation")) = some (.type "type")), fun K => PySem.W.excIn K (He.ga K "InvalidOperator") [.type "ValueError", .type "Exception", .type "BaseException", .type "object"] "ValueError.__new__", fun K => PySem.W.keepIn K (.ref (He.ga K "InvalidOperator")), fun K => decide (PySem.W.subIn K (.ref (He.ga K "InvalidOperator")) (.type "BaseException") = some true), fun K => decide (PySem.W.typeIn K (.ref (He.ga K "InvalidOperator")) = some (.type "type")), gtupB "LETTERS_BY_BITS" [.str "I", .str "X", .str "Z", .str "Y"], fun K => isubT.all fun t => decide (PySem.W.exmOne K (.ref ((TT K).cad t.1)) (.ref ((TT K).cad t.2.1)) = some t.2.2), tbsB tql] : List (PySem.W.Frag → Bool))
def exK (K : PySem.W.Frag) : Bool := exl.all fun f => f K
def tfl : List He.Defn := tql.map fun p => p.1
abbrev RW0 : PySem.W.OpenRow := PySem.W.OpenLaw.row PySem.Challenge.rw_askedapart_k35_errors_of_operators
abbrev hk : PySem.W.Hook := He.hookX 4 fal fnl [] tfl exK
def ob (s : PySem.W.SharedT) : He.AlX := He.obsX 4 fal fnl [] tfl exK (HandSHeadRun.getT s)
theorem ob_eq (s : PySem.W.SharedT) : ob s = hk.obs s.abs := He.obsX_eq (HandSHeadRun.getT_eq s)
def loosel : List Str := ([("is_integer" : Str), ("is_index" : Str), ("has_size" : Str), ("are_ascending" : Str), ("has_form" : Str), ("is_told" : Str), ("mask_of" : Str), ("row_of" : Str), ("places_of" : Str), ("pick_where" : Str), ("ones" : Str), ("put_down" : Str), ("put_apart" : Str), ("solved_masks" : Str), ("pairs_of" : Str), ("pairs_below" : Str), ("is_operator" : Str), ("are_operators" : Str), ("check_operators" : Str), ("check_row" : Str), ("check_rows" : Str), ("letter_bits" : Str), ("letters_of" : Str), ("form_of" : Str), ("told_form" : Str), ("form_times" : Str), ("does_commute" : Str), ("do_commute" : Str), ("bits_of" : Str), ("times_all" : Str)] : List Str) ++ ([("times" : Str), ("with_sign" : Str), ("product" : Str), ("is_choice" : Str), ("product_of" : Str), ("turned_by" : Str), ("quarter" : Str), ("is_one" : Str), ("is_unlike_pair" : Str), ("is_unlike_lot" : Str), ("bits_together" : Str), ("relations" : Str), ("some_unlike" : Str), ("letters_apart" : Str), ("turns_to" : Str), ("led_by" : Str), ("turns_between" : Str), ("led_or_unlike" : Str), ("are_turns" : Str), ("is_led_or_unlike" : Str), ("_law_dice" : Str), ("_law_roll" : Str), ("_law_pick" : Str), ("_law_met" : Str), ("_law_right" : Str), ("SureError" : Str), ("InvalidOperator" : Str), ("InvalidOperation" : Str), ("MOST_LETTERS" : Str), ("MOST_OPERATORS" : Str)] : List Str) ++ ([("MOST_TURNS" : Str), ("LETTERS_BY_BITS" : Str)] : List Str)
theorem run (w : World) : HandSHeadRun.RunEq RW0 (PySem.W.view RW0.prog [68]) hk ob 20000 loosel w := by
  intro os
  kernel_rfl
theorem mg_of {K : PySem.W.Frag} {h : Heap} {w : World} {mg : Str → Option Value} (KX : K.In h) (G : h.Ns mainGlobals mg) (c : He.SaysX fal fnl [] tfl exK w h K) : MG (TT K) mg where
  c_InvalidOperation := He.glo_ok KX G (c.t.d.fact 0 rfl)
  xe_InvalidOperation := ex_at c.more 0 rfl
  xk_InvalidOperation := ex_at c.more 1 rfl
  xs_InvalidOperation := of_decide_eq_true (ex_at c.more 2 rfl)
  xt_InvalidOperation := of_decide_eq_true (ex_at c.more 3 rfl)
  c_InvalidOperator := He.glo_ok KX G (c.t.d.fact 1 rfl)
  xe_InvalidOperator := ex_at c.more 4 rfl
  xk_InvalidOperator := ex_at c.more 5 rfl
  xs_InvalidOperator := of_decide_eq_true (ex_at c.more 6 rfl)
  xt_InvalidOperator := of_decide_eq_true (ex_at c.more 7 rfl)
  t_LETTERS_BY_BITS := ⟨_, He.glo_ok KX G (c.t.d.fact 2 rfl), gtup_of (ex_at (f := gtupB "LETTERS_BY_BITS" [.str "I", .str "X", .str "Z", .str "Y"]) c.more 8 rfl)⟩
  i_MOST_LETTERS := He.int_ok KX G (c.t.d.fact 3 rfl)
  i_MOST_OPERATORS := He.int_ok KX G (c.t.d.fact 4 rfl)
  i_MOST_TURNS := He.int_ok KX G (c.t.d.fact 5 rfl)
  f__law_dice := He.glo_ok KX G (c.t.d.fact 6 rfl)
  f__law_met := He.glo_ok KX G (c.t.d.fact 7 rfl)
  f__law_pick := He.glo_ok KX G (c.t.d.fact 8 rfl)
  f__law_right := He.glo_ok KX G (c.t.d.fact 9 rfl)
  f__law_roll := He.glo_ok KX G (c.t.d.fact 10 rfl)
  b_abs := He.free_ok KX G (c.t.d.fact 11 rfl)
  b_all := He.free_ok KX G (c.t.d.fact 12 rfl)
  b_any := He.free_ok KX G (c.t.d.fact 13 rfl)
  f_are_ascending := He.glo_ok KX G (c.t.d.fact 14 rfl)
  f_are_operators := He.glo_ok KX G (c.t.d.fact 15 rfl)
  f_are_turns := He.glo_ok KX G (c.t.d.fact 16 rfl)
  f_bits_of := He.glo_ok KX G (c.t.d.fact 17 rfl)
  f_bits_together := He.glo_ok KX G (c.t.d.fact 18 rfl)
  b_bool := He.free_ok KX G (c.t.d.fact 19 rfl)
  f_check_operators := He.glo_ok KX G (c.t.d.fact 20 rfl)
  f_check_row := He.glo_ok KX G (c.t.d.fact 21 rfl)
  f_check_rows := He.glo_ok KX G (c.t.d.fact 22 rfl)
  f_do_commute := He.glo_ok KX G (c.t.d.fact 23 rfl)
  f_does_commute := He.glo_ok KX G (c.t.d.fact 24 rfl)
  b_enumerate := He.free_ok KX G (c.t.d.fact 25 rfl)
  f_form_of := He.glo_ok KX G (c.t.d.fact 26 rfl)
  f_form_times := He.glo_ok KX G (c.t.d.fact 27 rfl)
  f_has_form := He.glo_ok KX G (c.t.d.fact 28 rfl)
  f_has_size := He.glo_ok KX G (c.t.d.fact 29 rfl)
  b_int := He.free_ok KX G (c.t.d.fact 30 rfl)
  f_is_choice := He.glo_ok KX G (c.t.d.fact 31 rfl)
  f_is_index := He.glo_ok KX G (c.t.d.fact 32 rfl)
  f_is_integer := He.glo_ok KX G (c.t.d.fact 33 rfl)
  f_is_led_or_unlike := He.glo_ok KX G (c.t.d.fact 34 rfl)
  f_is_one := He.glo_ok KX G (c.t.d.fact 35 rfl)
  f_is_operator := He.glo_ok KX G (c.t.d.fact 36 rfl)
  f_is_told := He.glo_ok KX G (c.t.d.fact 37 rfl)
  f_is_unlike_lot := He.glo_ok KX G (c.t.d.fact 38 rfl)
  f_is_unlike_pair := He.glo_ok KX G (c.t.d.fact 39 rfl)
  b_isinstance := He.free_ok KX G (c.t.d.fact 40 rfl)
  f_led_by := He.glo_ok KX G (c.t.d.fact 41 rfl)
  f_led_or_unlike := He.glo_ok KX G (c.t.d.fact 42 rfl)
  b_len := He.free_ok KX G (c.t.d.fact 43 rfl)
  f_letter_bits := He.glo_ok KX G (c.t.d.fact 44 rfl)
  f_letters_apart := He.glo_ok KX G (c.t.d.fact 45 rfl)
  f_letters_of := He.glo_ok KX G (c.t.d.fact 46 rfl)
  b_list := He.free_ok KX G (c.t.d.fact 47 rfl)
  f_mask_of := He.glo_ok KX G (c.t.d.fact 48 rfl)
  b_max := He.free_ok KX G (c.t.d.fact 49 rfl)
  b_min := He.free_ok KX G (c.t.d.fact 50 rfl)
  f_ones := He.glo_ok KX G (c.t.d.fact 51 rfl)
  f_pairs_below := He.glo_ok KX G (c.t.d.fact 52 rfl)
  f_pairs_of := He.glo_ok KX G (c.t.d.fact 53 rfl)
  f_pick_where := He.glo_ok KX G (c.t.d.fact 54 rfl)
  f_places_of := He.glo_ok KX G (c.t.d.fact 55 rfl)
  f_product := He.glo_ok KX G (c.t.d.fact 56 rfl)
  f_product_of := He.glo_ok KX G (c.t.d.fact 57 rfl)
  f_put_apart := He.glo_ok KX G (c.t.d.fact 58 rfl)
  f_put_down := He.glo_ok KX G (c.t.d.fact 59 rfl)
  f_quarter := He.glo_ok KX G (c.t.d.fact 60 rfl)
  b_range := He.free_ok KX G (c.t.d.fact 61 rfl)
  f_relations := He.glo_ok KX G (c.t.d.fact 62 rfl)
  f_row_of := He.glo_ok KX G (c.t.d.fact 63 rfl)
  f_solved_masks := He.glo_ok KX G (c.t.d.fact 64 rfl)
  f_some_unlike := He.glo_ok KX G (c.t.d.fact 65 rfl)
  b_str := He.free_ok KX G (c.t.d.fact 66 rfl)
  b_sum := He.free_ok KX G (c.t.d.fact 67 rfl)
  f_times := He.glo_ok KX G (c.t.d.fact 68 rfl)
  f_times_all := He.glo_ok KX G (c.t.d.fact 69 rfl)
  f_told_form := He.glo_ok KX G (c.t.d.fact 70 rfl)
  b_tuple := He.free_ok KX G (c.t.d.fact 71 rfl)
  f_turned_by := He.glo_ok KX G (c.t.d.fact 72 rfl)
  f_turns_between := He.glo_ok KX G (c.t.d.fact 73 rfl)
  f_turns_to := He.glo_ok KX G (c.t.d.fact 74 rfl)
  f_with_sign := He.glo_ok KX G (c.t.d.fact 75 rfl)
  b_zip := He.free_ok KX G (c.t.d.fact 76 rfl)
  lm := rfl
  sub := sub_of (ex_at c.more 9 rfl)
  xf := rfl
  xa := rfl
theorem law_at {l : PySem.W.OpenLaw} {K : PySem.W.Frag} {h : Heap} {w : World} {mg : Str → Option Value} {fa : Addr} (ht : TrueAt c_law 63) (KX : K.In h) (G : h.Ns mainGlobals mg) (c : He.SaysX fal fnl [] tfl exK w h K) (hfa : mg "law" = some (.ref fa)) :
    LamX.LawAtS l w K (L2.CX l.prog w) 11 63 "_law_script" mg fa h := by
  have M := mg_of KX G c
  have e := hfa.symm.trans (He.glo_ok KX G (c.t.d.fact 77 rfl))
  cases e
  have D_is_integer : DefAt (TT K) "is_integer" "is_integer" (topS 1) 0 ["value"] := defAt_of (c.t.d.def_ 0 (d := mkD "is_integer" 1) rfl).choose_spec (fun _ _ _ _ _ _ us hl => match us, hl with | [_], _ => rfl)
  have D_is_index : DefAt (TT K) "is_index" "is_index" (topS 2) 1 ["value", "many"] := defAt_of (c.t.d.def_ 1 (d := mkD "is_index" 2) rfl).choose_spec (fun _ _ _ _ _ _ us hl => match us, hl with | [_, _], _ => rfl)
  have D_has_size : DefAt (TT K) "has_size" "has_size" (topS 3) 2 ["value", "least", "most"] := defAt_of (c.t.d.def_ 2 (d := mkD "has_size" 3) rfl).choose_spec (fun _ _ _ _ _ _ us hl => match us, hl with | [_, _, _], _ => rfl)
  have D_are_ascending : DefAt (TT K) "are_ascending" "are_ascending" (topS 4) 3 ["value", "many"] := defAt_of (c.t.d.def_ 3 (d := mkD "are_ascending" 4) rfl).choose_spec (fun _ _ _ _ _ _ us hl => match us, hl with | [_, _], _ => rfl)
  have D_has_form : DefAt (TT K) "has_form" "has_form" (topS 5) 4 ["value", "word", "size"] := defAt_of (c.t.d.def_ 4 (d := mkD "has_form" 5) rfl).choose_spec (fun _ _ _ _ _ _ us hl => match us, hl with | [_, _, _], _ => rfl)
  have D_is_told : DefAt (TT K) "is_told" "is_told" (topS 6) 5 ["value", "word"] := defAt_of (c.t.d.def_ 5 (d := mkD "is_told" 6) rfl).choose_spec (fun _ _ _ _ _ _ us hl => match us, hl with | [_, _], _ => rfl)
  have D_mask_of : DefAt (TT K) "mask_of" "mask_of" (topS 12) 6 ["row"] := defAt_of (c.t.d.def_ 6 (d := mkD "mask_of" 12) rfl).choose_spec (fun _ _ _ _ _ _ us hl => match us, hl with | [_], _ => rfl)
  have D_row_of : DefAt (TT K) "row_of" "row_of" (topS 13) 7 ["mask", "length"] := defAt_of (c.t.d.def_ 7 (d := mkD "row_of" 13) rfl).choose_spec (fun _ _ _ _ _ _ us hl => match us, hl with | [_, _], _ => rfl)
  have D_places_of : DefAt (TT K) "places_of" "places_of" (topS 14) 8 ["pick"] := defAt_of (c.t.d.def_ 8 (d := mkD "places_of" 14) rfl).choose_spec (fun _ _ _ _ _ _ us hl => match us, hl with | [_], _ => rfl)
  have D_pick_where : DefAt (TT K) "pick_where" "pick_where" (topS 15) 9 ["bits"] := defAt_of (c.t.d.def_ 9 (d := mkD "pick_where" 15) rfl).choose_spec (fun _ _ _ _ _ _ us hl => match us, hl with | [_], _ => rfl)
  have D_ones : DefAt (TT K) "ones" "ones" (topS 16) 10 ["mask"] := defAt_of (c.t.d.def_ 10 (d := mkD "ones" 16) rfl).choose_spec (fun _ _ _ _ _ _ us hl => match us, hl with | [_], _ => rfl)
  have D_put_down : DefAt (TT K) "put_down" "put_down" (topS 17) 11 ["kept", "mask", "pick"] := defAt_of (c.t.d.def_ 11 (d := mkD "put_down" 17) rfl).choose_spec (fun _ _ _ _ _ _ us hl => match us, hl with | [_, _, _], _ => rfl)
  have D_put_apart : DefAt (TT K) "put_apart" "put_apart" (topS 18) 12 ["masks"] := defAt_of (c.t.d.def_ 12 (d := mkD "put_apart" 18) rfl).choose_spec (fun _ _ _ _ _ _ us hl => match us, hl with | [_], _ => rfl)
  have D_solved_masks : DefAt (TT K) "solved_masks" "solved_masks" (topS 19) 13 ["masks", "asked"] := defAt_of (c.t.d.def_ 13 (d := mkD "solved_masks" 19) rfl).choose_spec (fun _ _ _ _ _ _ us hl => match us, hl with | [_, _], _ => rfl)
  have D_pairs_of : DefAt (TT K) "pairs_of" "pairs_of" (topS 21) 14 ["things"] := defAt_of (c.t.d.def_ 14 (d := mkD "pairs_of" 21) rfl).choose_spec (fun _ _ _ _ _ _ us hl => match us, hl with | [_], _ => rfl)
  have D_pairs_below : DefAt (TT K) "pairs_below" "pairs_below" (topS 22) 15 ["many"] := defAt_of (c.t.d.def_ 15 (d := mkD "pairs_below" 22) rfl).choose_spec (fun _ _ _ _ _ _ us hl => match us, hl with | [_], _ => rfl)
  have D_is_operator : DefAt (TT K) "is_operator" "is_operator" (topS 28) 16 ["value"] := defAt_of (c.t.d.def_ 16 (d := mkD "is_operator" 28) rfl).choose_spec (fun _ _ _ _ _ _ us hl => match us, hl with | [_], _ => rfl)
  have D_are_operators : DefAt (TT K) "are_operators" "are_operators" (topS 29) 17 ["value", "least", "most"] := defAt_of (c.t.d.def_ 17 (d := mkD "are_operators" 29) rfl).choose_spec (fun _ _ _ _ _ _ us hl => match us, hl with | [_, _, _], _ => rfl)
  have D_check_operators : ∃ fd, Fun (TT K).K "check_operators" "check_operators" (topS 30) ((TT K).fad 18) fd := defV_of (c.t.d.def_ 18 (d := mkD "check_operators" 30) rfl).choose_spec
  have D_check_row : DefAt (TT K) "check_row" "check_row" (topS 31) 19 ["value"] := defAt_of (c.t.d.def_ 19 (d := mkD "check_row" 31) rfl).choose_spec (fun _ _ _ _ _ _ us hl => match us, hl with | [_], _ => rfl)
  have D_check_rows : DefAt (TT K) "check_rows" "check_rows" (topS 32) 20 ["row", "others"] := defAt_of (c.t.d.def_ 20 (d := mkD "check_rows" 32) rfl).choose_spec (fun _ _ _ _ _ _ us hl => match us, hl with | [_, _], _ => rfl)
  have D_letter_bits : DefAt (TT K) "letter_bits" "letter_bits" (topS 33) 21 ["operator"] := defAt_of (c.t.d.def_ 21 (d := mkD "letter_bits" 33) rfl).choose_spec (fun _ _ _ _ _ _ us hl => match us, hl with | [_], _ => rfl)
  have D_letters_of : DefAt (TT K) "letters_of" "letters_of" (topS 34) 22 ["firsts", "seconds"] := defAt_of (c.t.d.def_ 22 (d := mkD "letters_of" 34) rfl).choose_spec (fun _ _ _ _ _ _ us hl => match us, hl with | [_, _], _ => rfl)
  have D_form_of : DefAt (TT K) "form_of" "form_of" (topS 35) 23 ["operator"] := defAt_of (c.t.d.def_ 23 (d := mkD "form_of" 35) rfl).choose_spec (fun _ _ _ _ _ _ us hl => match us, hl with | [_], _ => rfl)
  have D_told_form : DefAt (TT K) "told_form" "told_form" (topS 36) 24 ["form", "length"] := defAt_of (c.t.d.def_ 24 (d := mkD "told_form" 36) rfl).choose_spec (fun _ _ _ _ _ _ us hl => match us, hl with | [_, _], _ => rfl)
  have D_form_times : DefAt (TT K) "form_times" "form_times" (topS 37) 25 ["one", "other"] := defAt_of (c.t.d.def_ 25 (d := mkD "form_times" 37) rfl).choose_spec (fun _ _ _ _ _ _ us hl => match us, hl with | [_, _], _ => rfl)
  have D_does_commute : DefAt (TT K) "does_commute" "does_commute" (topS 38) 26 ["one", "other"] := defAt_of (c.t.d.def_ 26 (d := mkD "does_commute" 38) rfl).choose_spec (fun _ _ _ _ _ _ us hl => match us, hl with | [_, _], _ => rfl)
  have D_do_commute : DefAt (TT K) "do_commute" "do_commute" (topS 39) 27 ["one", "other"] := defAt_of (c.t.d.def_ 27 (d := mkD "do_commute" 39) rfl).choose_spec (fun _ _ _ _ _ _ us hl => match us, hl with | [_, _], _ => rfl)
  have D_bits_of : DefAt (TT K) "bits_of" "bits_of" (topS 40) 28 ["operator"] := defAt_of (c.t.d.def_ 28 (d := mkD "bits_of" 40) rfl).choose_spec (fun _ _ _ _ _ _ us hl => match us, hl with | [_], _ => rfl)
  have D_times_all : DefAt (TT K) "times_all" "times_all" (topS 41) 29 ["operators"] := defAt_of (c.t.d.def_ 29 (d := mkD "times_all" 41) rfl).choose_spec (fun _ _ _ _ _ _ us hl => match us, hl with | [_], _ => rfl)
  have D_times : DefAt (TT K) "times" "times" (topS 42) 30 ["one", "other"] := defAt_of (c.t.d.def_ 30 (d := mkD "times" 42) rfl).choose_spec (fun _ _ _ _ _ _ us hl => match us, hl with | [_, _], _ => rfl)
  have D_with_sign : DefAt (TT K) "with_sign" "with_sign" (topS 43) 31 ["bit", "operator"] := defAt_of (c.t.d.def_ 31 (d := mkD "with_sign" 43) rfl).choose_spec (fun _ _ _ _ _ _ us hl => match us, hl with | [_, _], _ => rfl)
  have D_product : DefAt (TT K) "product" "product" (topS 44) 32 ["one", "other"] := defAt_of (c.t.d.def_ 32 (d := mkD "product" 44) rfl).choose_spec (fun _ _ _ _ _ _ us hl => match us, hl with | [_, _], _ => rfl)
  have D_is_choice : DefAt (TT K) "is_choice" "is_choice" (topS 45) 33 ["value", "many"] := defAt_of (c.t.d.def_ 33 (d := mkD "is_choice" 45) rfl).choose_spec (fun _ _ _ _ _ _ us hl => match us, hl with | [_, _], _ => rfl)
  have D_product_of : DefAt (TT K) "product_of" "product_of" (topS 46) 34 ["row", "indices"] := defAt_of (c.t.d.def_ 34 (d := mkD "product_of" 46) rfl).choose_spec (fun _ _ _ _ _ _ us hl => match us, hl with | [_, _], _ => rfl)
  have D_turned_by : DefAt (TT K) "turned_by" "turned_by" (topS 47) 35 ["operator", "by"] := defAt_of (c.t.d.def_ 35 (d := mkD "turned_by" 47) rfl).choose_spec (fun _ _ _ _ _ _ us hl => match us, hl with | [_, _], _ => rfl)
  have D_quarter : DefAt (TT K) "quarter" "quarter" (topS 48) 36 ["operator", "by"] := defAt_of (c.t.d.def_ 36 (d := mkD "quarter" 48) rfl).choose_spec (fun _ _ _ _ _ _ us hl => match us, hl with | [_, _], _ => rfl)
  have D_is_one : DefAt (TT K) "is_one" "is_one" (topS 49) 37 ["letters"] := defAt_of (c.t.d.def_ 37 (d := mkD "is_one" 49) rfl).choose_spec (fun _ _ _ _ _ _ us hl => match us, hl with | [_], _ => rfl)
  have D_is_unlike_pair : DefAt (TT K) "is_unlike_pair" "is_unlike_pair" (topS 50) 38 ["row", "others", "i", "j"] := defAt_of (c.t.d.def_ 38 (d := mkD "is_unlike_pair" 50) rfl).choose_spec (fun _ _ _ _ _ _ us hl => match us, hl with | [_, _, _, _], _ => rfl)
  have D_is_unlike_lot : DefAt (TT K) "is_unlike_lot" "is_unlike_lot" (topS 51) 39 ["row", "others", "indices"] := defAt_of (c.t.d.def_ 39 (d := mkD "is_unlike_lot" 51) rfl).choose_spec (fun _ _ _ _ _ _ us hl => match us, hl with | [_, _, _], _ => rfl)
  have D_bits_together : DefAt (TT K) "bits_together" "bits_together" (topS 52) 40 ["operator"] := defAt_of (c.t.d.def_ 40 (d := mkD "bits_together" 52) rfl).choose_spec (fun _ _ _ _ _ _ us hl => match us, hl with | [_], _ => rfl)
  have D_relations : DefAt (TT K) "relations" "relations" (topS 53) 41 ["row"] := defAt_of (c.t.d.def_ 41 (d := mkD "relations" 53) rfl).choose_spec (fun _ _ _ _ _ _ us hl => match us, hl with | [_], _ => rfl)
  have D_some_unlike : DefAt (TT K) "some_unlike" "some_unlike" (topS 54) 42 ["row", "others"] := defAt_of (c.t.d.def_ 42 (d := mkD "some_unlike" 54) rfl).choose_spec (fun _ _ _ _ _ _ us hl => match us, hl with | [_, _], _ => rfl)
  have D_letters_apart : DefAt (TT K) "letters_apart" "letters_apart" (topS 55) 43 ["operators", "bits"] := defAt_of (c.t.d.def_ 43 (d := mkD "letters_apart" 55) rfl).choose_spec (fun _ _ _ _ _ _ us hl => match us, hl with | [_, _], _ => rfl)
  have D_turns_to : DefAt (TT K) "turns_to" "turns_to" (topS 56) 44 ["here", "there", "ahead"] := defAt_of (c.t.d.def_ 44 (d := mkD "turns_to" 56) rfl).choose_spec (fun _ _ _ _ _ _ us hl => match us, hl with | [_, _, _], _ => rfl)
  have D_led_by : DefAt (TT K) "led_by" "led_by" (topS 57) 45 ["row", "turns"] := defAt_of (c.t.d.def_ 45 (d := mkD "led_by" 57) rfl).choose_spec (fun _ _ _ _ _ _ us hl => match us, hl with | [_, _], _ => rfl)
  have D_turns_between : DefAt (TT K) "turns_between" "turns_between" (topS 58) 46 ["row", "others"] := defAt_of (c.t.d.def_ 46 (d := mkD "turns_between" 58) rfl).choose_spec (fun _ _ _ _ _ _ us hl => match us, hl with | [_, _], _ => rfl)
  have D_led_or_unlike : DefAt (TT K) "led_or_unlike" "led_or_unlike" (topS 59) 47 ["row", "others"] := defAt_of (c.t.d.def_ 47 (d := mkD "led_or_unlike" 59) rfl).choose_spec (fun _ _ _ _ _ _ us hl => match us, hl with | [_, _], _ => rfl)
  have D_are_turns : DefAt (TT K) "are_turns" "are_turns" (topS 60) 48 ["value", "length"] := defAt_of (c.t.d.def_ 48 (d := mkD "are_turns" 60) rfl).choose_spec (fun _ _ _ _ _ _ us hl => match us, hl with | [_, _], _ => rfl)
  have D_is_led_or_unlike : DefAt (TT K) "is_led_or_unlike" "is_led_or_unlike" (topS 61) 49 ["row", "others", "value"] := defAt_of (c.t.d.def_ 49 (d := mkD "is_led_or_unlike" 61) rfl).choose_spec (fun _ _ _ _ _ _ us hl => match us, hl with | [_, _, _], _ => rfl)
  have D__law_dice : DefAt (TT K) "_law_dice" "_law_dice" (topS 63) 50 ["_law_script", "_law_spot"] := defAt_of (c.t.d.def_ 50 (d := mkD "_law_dice" 63) rfl).choose_spec (fun _ _ _ _ _ _ us hl => match us, hl with | [_, _], _ => rfl)
  have D__law_roll : DefAt (TT K) "_law_roll" "_law_roll" (topS 64) 51 ["_law_dice_here", "_law_most"] := defAt_of (c.t.d.def_ 51 (d := mkD "_law_roll" 64) rfl).choose_spec (fun _ _ _ _ _ _ us hl => match us, hl with | [_, _], _ => rfl)
  have D__law_pick : DefAt (TT K) "_law_pick" "_law_pick" (topS 65) 52 ["_law_dice_here", "_law_items"] := defAt_of (c.t.d.def_ 52 (d := mkD "_law_pick" 65) rfl).choose_spec (fun _ _ _ _ _ _ us hl => match us, hl with | [_, _], _ => rfl)
  have D__law_met : DefAt (TT K) "_law_met" "_law_met" (topS 66) 53 ["_law_call"] := defAt_of (c.t.d.def_ 53 (d := mkD "_law_met" 66) rfl).choose_spec (fun _ _ _ _ _ _ us hl => match us, hl with | [_], _ => rfl)
  have D__law_right : DefAtL (TT K) "_law_right" "_law_right" (topS 67) 54 ["_law_dice_here"] (He.codeOf K ("_law_right", none)) := defAtL_of (p := ("_law_right", none)) rfl (c.t.d.def_ 54 (d := mkD "_law_right" 67) rfl).choose_spec (fun _ _ _ _ _ _ us hl => match us, hl with | [_], _ => rfl)
  obtain ⟨fd, F0⟩ := c.t.d.def_ 55 (d := mkD "law" 68) rfl
  have LF := law_fn (T := TT K) (P := l.prog) (w := w) (mg := mg) (x := "law") (s0 := topS 68) (n := 55) (p := ("law", none)) (a := "_law_script") (k := 10) (b := n_law) rfl F0 (fun _ _ _ _ _ _ us hl => match us, hl with | [_], _ => rfl) sc_law
  refine ⟨fd, tfl.map (He.cT K), spD (TT K) 1 c_law, fun p hp => ?_, fun p hp => ?_, fun p hp => ?_, LF.1, fun H a ns hl hb hH hS => ?_, fun base KB NB TB => ?_⟩
  · obtain ⟨q, hq, rfl⟩ := List.mem_map.mp hp
    exact c.empty q hq
  · obtain ⟨q, hq, rfl⟩ := List.mem_map.mp hp
    exact c.out q hq
  · obtain ⟨q, hq, rfl⟩ := List.mem_map.mp hp
    exact PySem.W.codeHd_of_K KX (c.hd q hq)
  · refine law_sp (T := TT K) ht hl hb (fun q hq => ?_) hS
    obtain ⟨p, hp, rfl⟩ := List.mem_map.mp hq
    exact hH (He.cT K p.1) (List.mem_map.mpr ⟨p.1, List.mem_map.mpr ⟨p, hp, rfl⟩, rfl⟩)
  · refine LF.2 base fun A outer s H E hr => ?_
    generalize l.prog = P at hr ⊢
    have C_is_integer := k_is_integer (P := P) (w := w) (base := base) M D_is_integer 
    have C_is_index := k_is_index (P := P) (w := w) (base := base) M D_is_index C_is_integer
    have C_has_size := k_has_size (P := P) (w := w) (base := base) M D_has_size 
    have C_are_ascending := k_are_ascending (P := P) (w := w) (base := base) M D_are_ascending C_has_size C_is_index
    have C_has_form := k_has_form (P := P) (w := w) (base := base) M D_has_form C_has_size
    have C_is_told := k_is_told (P := P) (w := w) (base := base) M D_is_told C_has_form
    have C_mask_of := k_mask_of (P := P) (w := w) (base := base) M D_mask_of 
    have C_row_of := k_row_of (P := P) (w := w) (base := base) M D_row_of 
    have C_places_of := k_places_of (P := P) (w := w) (base := base) M D_places_of 
    have C_pick_where := k_pick_where (P := P) (w := w) (base := base) M D_pick_where 
    have C_ones := k_ones (P := P) (w := w) (base := base) M D_ones 
    have C_put_down := k_put_down (P := P) (w := w) (base := base) M D_put_down 
    have C_put_apart := k_put_apart (P := P) (w := w) (base := base) M D_put_apart C_put_down
    have C_solved_masks := k_solved_masks (P := P) (w := w) (base := base) M D_solved_masks C_put_apart C_ones
    have C_pairs_of := k_pairs_of (P := P) (w := w) (base := base) M D_pairs_of 
    have C_pairs_below := k_pairs_below (P := P) (w := w) (base := base) M D_pairs_below C_pairs_of
    have C_is_operator := k_is_operator (P := P) (w := w) (base := base) M D_is_operator 
    have C_are_operators := k_are_operators (P := P) (w := w) (base := base) M D_are_operators C_has_size C_is_operator
    have C_check_operators := k_check_operators (P := P) (w := w) (base := base) M D_check_operators C_is_operator
    have C_check_row := k_check_row (P := P) (w := w) (base := base) M D_check_row C_are_operators
    have C_check_rows := k_check_rows (P := P) (w := w) (base := base) M D_check_rows C_check_row
    have C_letter_bits := k_letter_bits (P := P) (w := w) (base := base) M D_letter_bits 
    have C_letters_of := k_letters_of (P := P) (w := w) (base := base) M D_letters_of 
    have C_form_of := k_form_of (P := P) (w := w) (base := base) M D_form_of C_letter_bits C_mask_of
    have C_told_form := k_told_form (P := P) (w := w) (base := base) M D_told_form C_letters_of C_row_of
    have C_form_times := k_form_times (P := P) (w := w) (base := base) M D_form_times C_ones
    have C_does_commute := k_does_commute (P := P) (w := w) (base := base) M D_does_commute C_form_of C_ones
    have C_do_commute := k_do_commute (P := P) (w := w) (base := base) M D_do_commute C_check_operators C_does_commute
    have C_bits_of := k_bits_of (P := P) (w := w) (base := base) M D_bits_of C_check_operators C_letter_bits
    have C_times_all := k_times_all (P := P) (w := w) (base := base) M D_times_all C_form_times C_form_of C_told_form
    have C_times := k_times (P := P) (w := w) (base := base) M D_times C_check_operators C_times_all
    have C_with_sign := k_with_sign (P := P) (w := w) (base := base) M D_with_sign 
    have C_product := k_product (P := P) (w := w) (base := base) M D_product C_check_operators C_times_all C_with_sign
    have C_is_choice := k_is_choice (P := P) (w := w) (base := base) M D_is_choice C_are_ascending
    have C_product_of := k_product_of (P := P) (w := w) (base := base) M D_product_of C_check_row C_is_choice C_times_all
    have C_turned_by := k_turned_by (P := P) (w := w) (base := base) M D_turned_by C_times_all C_with_sign
    have C_quarter := k_quarter (P := P) (w := w) (base := base) M D_quarter C_check_operators C_turned_by
    have C_is_one := k_is_one (P := P) (w := w) (base := base) M D_is_one 
    have C_is_unlike_pair := k_is_unlike_pair (P := P) (w := w) (base := base) M D_is_unlike_pair C_does_commute
    have C_is_unlike_lot := k_is_unlike_lot (P := P) (w := w) (base := base) M D_is_unlike_lot C_times_all C_is_one
    have C_bits_together := k_bits_together (P := P) (w := w) (base := base) M D_bits_together C_letter_bits C_mask_of
    have C_relations := k_relations (P := P) (w := w) (base := base) M D_relations C_put_apart C_bits_together
    have C_some_unlike := k_some_unlike (P := P) (w := w) (base := base) M D_some_unlike C_pairs_below C_is_unlike_pair C_relations C_is_unlike_lot C_places_of
    have C_letters_apart := k_letters_apart (P := P) (w := w) (base := base) M D_letters_apart C_letter_bits C_solved_masks C_pick_where C_mask_of C_row_of C_letters_of
    have C_turns_to := k_turns_to (P := P) (w := w) (base := base) M D_turns_to C_does_commute C_times_all C_letters_apart
    have C_led_by := k_led_by (P := P) (w := w) (base := base) M D_led_by C_turned_by
    have C_turns_between := k_turns_between (P := P) (w := w) (base := base) M D_turns_between C_relations C_led_by C_turns_to C_letters_apart
    have C_led_or_unlike := k_led_or_unlike (P := P) (w := w) (base := base) M D_led_or_unlike C_check_rows C_some_unlike C_turns_between
    have C_are_turns := k_are_turns (P := P) (w := w) (base := base) M D_are_turns C_are_operators
    have C_is_led_or_unlike := k_is_led_or_unlike (P := P) (w := w) (base := base) M D_is_led_or_unlike C_check_rows C_is_told C_are_turns C_led_by C_is_choice C_is_unlike_lot C_has_form C_is_index C_is_unlike_pair
    have C__law_dice := k__law_dice (P := P) (w := w) (base := base) M D__law_dice 
    have C__law_roll := k__law_roll (P := P) (w := w) (base := base) M D__law_roll 
    have C__law_pick := k__law_pick (P := P) (w := w) (base := base) M D__law_pick C__law_roll
    have C__law_right := k__law_right (P := P) (w := w) (base := base) M C__law_pick C_bits_of C_do_commute C_times C_product C_quarter C_led_or_unlike C_product_of C_is_led_or_unlike C_is_operator D__law_met (TB _ (List.mem_of_getElem? (i := 0) (a := He.cT K ("_law_right", none)) rfl)) (tbs_mem 0 (p := (("_law_right", none), lamQ (envOfC "_law_right" (defScope (topS 67)) 0 0 (.ref 0)))) rfl) (tbs_u (ex_at (f := tbsB tql) c.more 10 rfl) (("_law_right", none), lamQ (envOfC "_law_right" (defScope (topS 67)) 0 0 (.ref 0))) (List.mem_of_getElem? (i := 0) rfl)) D__law_right
    exact b_law M C__law_right C__law_dice C_led_or_unlike C_product_of C_is_operator C_is_led_or_unlike D__law_met (TB _ (List.mem_of_getElem? (i := 1) (a := He.cT K ("law", none)) rfl)) (tbs_mem 1 (p := (("law", none), lamQ (envOfC "law" (defScope (topS 68)) 0 0 (.ref 0)))) rfl) (tbs_u (ex_at (f := tbsB tql) c.more 10 rfl) (("law", none), lamQ (envOfC "law" (defScope (topS 68)) 0 0 (.ref 0))) (List.mem_of_getElem? (i := 1) rfl)) A outer s H E hr
end Law

open PySem PySem.W PySem.Calls PyProof.Rows
theorem holds_of (ht : Den.TrueAt Law.c_law 63) : PySem.Challenge.rw_askedapart_k35_errors_of_operators.Holds := by
  w_on; o_law
  refine HandSHeadRun.head_any (r := OpenLaw.row PySem.Challenge.rw_askedapart_k35_errors_of_operators) (q := view (OpenLaw.row PySem.Challenge.rw_askedapart_k35_errors_of_operators).prog [68]) (H := Law.hk) (ob := Law.ob) (M := 20000) (loose := Law.loosel) (d := HandSHeadRun.topDef (OpenLaw.row PySem.Challenge.rw_askedapart_k35_errors_of_operators).prog 68) (kwd := []) Law.ob_eq
    (by kernel_rfl) (fun s => by kernel_rfl) Law.run (by kernel_rfl) (by kernel_rfl) (by kernel_rfl) (by rfl) (by first | assumption | decide +kernel) (by decide +kernel) ⟨rfl, rfl, rfl, rfl, rfl, by decide +kernel⟩ ?hw ?hc
  case hw => w_witness2
  case hc =>
    refine LamX.walk_ofTsE (l := PySem.Challenge.rw_askedapart_k35_errors_of_operators) (n := 63) (k := 11) (x := "_law_script") (CX := fun w => L2.CX PySem.Challenge.rw_askedapart_k35_errors_of_operators.prog w) rfl (by decide) (by kernel_rfl) ⟨rfl, by decide, by decide⟩ ?F ?X
    case F =>
      intro w mg fa h Y G hmg0
      obtain ⟨K, KX, c⟩ := Y
      have hmg : mg ("law" : PySem.Str) = some (.ref fa) := by
        have e : (HandSHeadRun.topDef (OpenLaw.row PySem.Challenge.rw_askedapart_k35_errors_of_operators).prog 68).name = ("law" : PySem.Str) := by kernel_rfl
        rw [← e]
        exact hmg0
      exact ⟨K, KX, Law.law_at ht KX G c hmg⟩
    case X =>
      rintro w H s e s' ⟨_, _, _, _, _, _, _, _, _, _, _, _, _, _, z⟩

open PySem PySem.W PyProof.Rows
theorem PySem.Challenge.cw_askedapart_k35_errors_of_operators_holds : PySem.Challenge.rw_askedapart_k35_errors_of_operators.Holds := by
  exact holds_of Law.law_true
