import PyProof.Rows.All
import Wide.All
import OpenK.AllK
import Wide.FinOn
import PySem.Challenge.RW_layermap_k06_known
import HandS.ForMost
import HandS.ForExc
import HandS.IsInst
import HandS.TupAny
import HandS.TupMul
import KE.KDictKeyed
import KE.KeyNested
import HandS.Star
import HandS.DictComp
import HandS.Finally
import HandS.Property
import HandS.ClsMeth
import HandS.SlotsOwn
import HandS.Small
import HandS.Style
import HandS.SortInts
import KE.KSortedM
import HandS.DictEq
import HandS.Exc
import HandS.ExcField
import HandS.Nested
import HandS.ExcInit
import HandS.ExcSuper
import KE.KExcSuper
import HandS.Defaults
import HandS.SetBool
import HandS.Strs
import HandS.DictTup
import HandS.Conv
import KE.KDictCopyH
import HandS.MakeKwOnly
import HandS.SortKw
import HandS.TupSets
import HandS.SetFor
import KE.SortKeyHeap
import HandS.Deep
import KE.KDictDisplayH
import HandS.Ends
import HandS.More
import HandS.Words
import HandS.WordsExc
import HandS.Head0
import HandS.Head1
import HandS.Head2
import HandS.HeadEnd
import HandS.HeadHook1
import HandS.HeadHook2
import HandS.HeadNt
set_option Elab.async false
set_option autoImplicit false
set_option linter.all false
set_option maxRecDepth 100000
set_option maxHeartbeats 4000000
/-! Mi: a mirror of a program over plain data (values as trees, objects that change in a store), and how its readings follow. -/
namespace Mi
open PySem L2

/-- a value as a tree; loc: an object that may change, by its number in the store; fl: a list that is only read (the script); exc: the exception that an except suite holds, a name's value only -/
inductive D where
  | non | bl (b : Bool) | int (i : Int) | str (s : Str) | tup (xs : List D) | fl (xs : List D) | loc (n : Nat) | cls (c : Nat) | exc (ns : List Str) (ds : List D)
mutual
/-- a value as a key of any depth -/
def keyN : D → Option NestedKey
  | .non => some .none
  | .bl b => some (.num (if b = true then 1 else 0))
  | .int i => some (.num i)
  | .str s => some (.text s)
  | .tup xs => match keysN xs with
    | some ks => some (.tup ks)
    | none => none
  | .fl _ => none
  | .loc _ => none
  | .cls _ => none
  | .exc _ _ => none
def keysN : List D → Option (List NestedKey)
  | [] => some []
  | d :: ds => match keyN d, keysN ds with
    | some k, some ks => some (k :: ks)
    | _, _ => none
end
/-- an object of the store; dtn: a dict whose keys are tuples -/
inductive O where
  | lst (xs : List D) | dct (lk : Bool) (kvs : List (Key × D)) | ins (c : Nat) (ds : List D) | dtn (lk : Bool) (kvs : List (NestedKey × D × D))
abbrev Sto := List O
abbrev Sl := List (Option D)

inductive R (α : Type) where
  | ok (a : α) (S : Sto) | ex (c : Nat) (fs : List (Str × D)) (S : Sto) | bad
def R.to {α β : Type} (r : R α) (k : α → Sto → R β) : R β := match r with
  | .ok a S => k a S
  | .ex c fs S => .ex c fs S
  | .bad => .bad
inductive Fl where
  | nx | rt (d : D) | bk | ct
inductive RS where
  | ok (f : Fl) (σ : Sl) (S : Sto) | ex (c : Nat) (fs : List (Str × D)) (σ : Sl) (S : Sto) | bad

/-- the program's own classes by number: where they stand, the names of their attributes in the order in which they are stored -/
structure Cl where
  cl : Nat → Addr
  fn : Nat → List Str
  xc : Nat → Addr := fun _ => 0
  ex : Option (Addr × Addr) := none
  pw : Option (Program × World) := none
structure Ct where
  K : PySem.W.Frag
  c : Cl

/-- a list that nobody may write -/
def SqF (K : PySem.W.Frag) (H : Hp) (a : Addr) (xs : List V) : Prop := SqL K H a xs ∧ ((∃ o, H a = some (.frz o (.lst xs))) ∨ ∀ H', SqL K H' a xs)

mutual
def RV (G : Ct) (ρ : List Addr) (H : Hp) : D → V → Prop
  | .non, v => v = .non
  | .bl b, v => v = .bl b
  | .int i, v => v = .int i
  | .str s, v => v = .str s
  | .tup xs, v => ∃ a vs, v = .ref a ∧ SqT G.K H a vs ∧ RVs G ρ H xs vs
  | .fl xs, v => ∃ a vs, v = .ref a ∧ SqF G.K H a vs ∧ RVs G ρ H xs vs
  | .loc n, v => ∃ a, v = .ref a ∧ ρ[n]? = some a
  | .cls c, v => v = .ref (G.c.cl c)
  | .exc _ _, _ => False
def RVs (G : Ct) (ρ : List Addr) (H : Hp) : List D → List V → Prop
  | [], vs => vs = []
  | d :: ds, vs => ∃ v r, vs = v :: r ∧ RV G ρ H d v ∧ RVs G ρ H ds r
end

/-- what values lean on is kept -/
structure ExtW (G : Ct) (ρ ρ' : List Addr) (H H' : Hp) : Prop where
  pre : ∃ m, ρ' = ρ ++ m
  tup : ∀ a xs, SqT G.K H a xs → SqT G.K H' a xs
  frl : ∀ a o xs, H a = some (.frz o (.lst xs)) → H' a = some (.frz o (.lst xs))
  xd : ∀ a vs, H a = some (.xd vs) → H' a = some (.xd vs)
/-- .. and what is locked -/
structure Ext (G : Ct) (ρ ρ' : List Addr) (H H' : Hp) : Prop where
  pre : ∃ m, ρ' = ρ ++ m
  tup : ∀ a xs, SqT G.K H a xs → SqT G.K H' a xs
  frz : ∀ a o u, H a = some (.frz o u) → H' a = some (.frz o u)
  xd : ∀ a vs, H a = some (.xd vs) → H' a = some (.xd vs)
theorem Ext.w {G : Ct} {ρ ρ' : List Addr} {H H' : Hp} (e : Ext G ρ ρ' H H') : ExtW G ρ ρ' H H' := ⟨e.pre, e.tup, fun a o xs h => e.frz a o _ h, e.xd⟩

theorem Ext.refl {G : Ct} {ρ : List Addr} {H : Hp} : Ext G ρ ρ H H := ⟨⟨[], by simp⟩, fun _ _ h => h, fun _ _ _ h => h, fun _ _ h => h⟩
theorem Ext.trans {G : Ct} {ρ ρ1 ρ2 : List Addr} {H H1 H2 : Hp} (a : Ext G ρ ρ1 H H1) (b : Ext G ρ1 ρ2 H1 H2) : Ext G ρ ρ2 H H2 := by
  obtain ⟨m, rfl⟩ := a.pre
  obtain ⟨m', rfl⟩ := b.pre
  exact ⟨⟨m ++ m', by simp⟩, fun x xs h => b.tup x xs (a.tup x xs h), fun x o u h => b.frz x o u (a.frz x o u h), fun x vs h => b.xd x vs (a.xd x vs h)⟩
theorem ExtW.get {G : Ct} {ρ ρ' : List Addr} {H H' : Hp} (e : ExtW G ρ ρ' H H') {n : Nat} {a : Addr} (h : ρ[n]? = some a) : ρ'[n]? = some a := by
  obtain ⟨m, rfl⟩ := e.pre
  have hn : n < ρ.length := (List.getElem?_eq_some_iff.mp h).1
  rw [List.getElem?_append_left hn]
  exact h
theorem SqF.extW {G : Ct} {ρ ρ' : List Addr} {H H' : Hp} (e : ExtW G ρ ρ' H H') {a : Addr} {xs : List V} (h : SqF G.K H a xs) : SqF G.K H' a xs := by
  rcases h with ⟨_, ⟨o, h⟩ | h⟩
  · exact ⟨.inl (.inr ⟨o, e.frl _ _ _ h⟩), .inl ⟨o, e.frl _ _ _ h⟩⟩
  · exact ⟨h _, .inr h⟩

mutual
theorem RV.extW {G : Ct} {ρ ρ' : List Addr} {H H' : Hp} (e : ExtW G ρ ρ' H H') : ∀ (d : D) (v : V), RV G ρ H d v → RV G ρ' H' d v
  | .non, v, h => h
  | .bl b, v, h => h
  | .int i, v, h => h
  | .str s, v, h => h
  | .tup xs, v, h => by
    obtain ⟨a, vs, e1, h1, h2⟩ := h
    exact ⟨a, vs, e1, e.tup _ _ h1, RVs.extW e xs vs h2⟩
  | .fl xs, v, h => by
    obtain ⟨a, vs, e1, h1, h2⟩ := h
    exact ⟨a, vs, e1, h1.extW e, RVs.extW e xs vs h2⟩
  | .loc n, v, h => by
    obtain ⟨a, e1, h1⟩ := h
    exact ⟨a, e1, e.get h1⟩
  | .cls c, v, h => h
  | .exc _ _, _, h => h.elim
theorem RVs.extW {G : Ct} {ρ ρ' : List Addr} {H H' : Hp} (e : ExtW G ρ ρ' H H') : ∀ (ds : List D) (vs : List V), RVs G ρ H ds vs → RVs G ρ' H' ds vs
  | [], _, h => h
  | d :: ds, _, h => by
    obtain ⟨v, r, rfl, h1, h2⟩ := h
    exact ⟨v, r, rfl, RV.extW e d v h1, RVs.extW e ds r h2⟩
end
theorem Ext.get {G : Ct} {ρ ρ' : List Addr} {H H' : Hp} (e : Ext G ρ ρ' H H') {n : Nat} {a : Addr} (h : ρ[n]? = some a) : ρ'[n]? = some a := e.w.get h
theorem RV.ext {G : Ct} {ρ ρ' : List Addr} {H H' : Hp} (e : Ext G ρ ρ' H H') {d : D} {v : V} (h : RV G ρ H d v) : RV G ρ' H' d v := RV.extW e.w d v h
theorem RVs.ext {G : Ct} {ρ ρ' : List Addr} {H H' : Hp} (e : Ext G ρ ρ' H H') {ds : List D} {vs : List V} (h : RVs G ρ H ds vs) : RVs G ρ' H' ds vs := RVs.extW e.w ds vs h
theorem RVs.length {G : Ct} {ρ : List Addr} {H : Hp} : ∀ {ds : List D} {vs : List V}, RVs G ρ H ds vs → ds.length = vs.length
  | [], _, h => by cases h; rfl
  | d :: ds, _, h => by
    obtain ⟨v, r, rfl, _, h2⟩ := h
    simp [RVs.length h2]
theorem RVs.get {G : Ct} {ρ : List Addr} {H : Hp} : ∀ {ds : List D} {vs : List V} {i : Nat} {d : D}, RVs G ρ H ds vs → ds[i]? = some d → ∃ v, vs[i]? = some v ∧ RV G ρ H d v
  | [], _, _, _, _, e => by simp at e
  | d :: ds, _, 0, _, h, e => by
    obtain ⟨v, r, rfl, h1, _⟩ := h
    simp at e; subst e
    exact ⟨v, rfl, h1⟩
  | d :: ds, _, i + 1, _, h, e => by
    obtain ⟨v, r, rfl, _, h2⟩ := h
    obtain ⟨w, e1, h3⟩ := RVs.get (i := i) h2 (by simpa using e)
    exact ⟨w, by simpa using e1, h3⟩
theorem RVs.append {G : Ct} {ρ : List Addr} {H : Hp} : ∀ {ds es : List D} {vs ws : List V}, RVs G ρ H ds vs → RVs G ρ H es ws → RVs G ρ H (ds ++ es) (vs ++ ws)
  | [], _, _, _, h, q => by cases h; exact q
  | d :: ds, _, _, _, h, q => by
    obtain ⟨v, r, rfl, h1, h2⟩ := h
    exact ⟨v, r ++ _, rfl, h1, RVs.append h2 q⟩
theorem RVs.take {G : Ct} {ρ : List Addr} {H : Hp} : ∀ {ds : List D} {vs : List V} (n : Nat), RVs G ρ H ds vs → RVs G ρ H (ds.take n) (vs.take n)
  | _, _, 0, _ => by rw [List.take_zero, List.take_zero]; rfl
  | [], _, n + 1, h => by cases h; rfl
  | d :: ds, _, n + 1, h => by
    obtain ⟨v, r, rfl, h1, h2⟩ := h
    exact ⟨v, r.take n, rfl, h1, RVs.take n h2⟩
theorem RVs.drop {G : Ct} {ρ : List Addr} {H : Hp} : ∀ {ds : List D} {vs : List V} (n : Nat), RVs G ρ H ds vs → RVs G ρ H (ds.drop n) (vs.drop n)
  | _, _, 0, h => h
  | [], _, n + 1, h => by cases h; rfl
  | d :: ds, _, n + 1, h => by
    obtain ⟨v, r, rfl, _, h2⟩ := h
    exact RVs.drop n h2
theorem RVs.set {G : Ct} {ρ : List Addr} {H : Hp} {d : D} {v : V} (hd : RV G ρ H d v) : ∀ {ds : List D} {vs : List V} (n : Nat), RVs G ρ H ds vs → RVs G ρ H (ds.set n d) (vs.set n v)
  | [], _, _, h => by cases h; rfl
  | _ :: ds, _, 0, h => by
    obtain ⟨v', r, rfl, h1, h2⟩ := h
    exact ⟨v, r, rfl, hd, h2⟩
  | _ :: ds, _, n + 1, h => by
    obtain ⟨v', r, rfl, h1, h2⟩ := h
    exact ⟨v', r.set n v, rfl, h1, RVs.set hd n h2⟩
def D.isNon : D → Bool
  | .non => true
  | _ => false
theorem RV.non {G : Ct} {ρ : List Addr} {H : Hp} : ∀ {d : D} {v : V}, RV G ρ H d v → decide (v = .non) = d.isNon
  | .non, _, h => by cases h; rfl
  | .bl _, _, h => by cases h; rfl
  | .int _, _, h => by cases h; rfl
  | .str _, _, h => by cases h; rfl
  | .tup _, _, h => by obtain ⟨_, _, rfl, _⟩ := h; rfl
  | .fl _, _, h => by obtain ⟨_, _, rfl, _⟩ := h; rfl
  | .loc _, _, h => by obtain ⟨_, rfl, _⟩ := h; rfl
  | .cls _, _, h => by cases h; rfl
  | .exc _ _, _, h => h.elim

/-! ### the store -/
def keyD : D → Option Key
  | .int i => some (.inl i)
  | .str s => some (.inr s)
  | _ => none
def kD : Key → D
  | .inl i => .int i
  | .inr s => .str s
def RKs (G : Ct) (ρ : List Addr) (H : Hp) : List (Key × D) → List (Key × V) → Prop
  | [], ks => ks = []
  | p :: ps, ks => ∃ v r, ks = (p.1, v) :: r ∧ RV G ρ H p.2 v ∧ RKs G ρ H ps r
def RFs (G : Ct) (ρ : List Addr) (H : Hp) : List (Str × D) → List (Str × V) → Prop
  | [], ks => ks = []
  | p :: ps, ks => ∃ v r, ks = (p.1, v) :: r ∧ RV G ρ H p.2 v ∧ RFs G ρ H ps r
theorem RKs.extW {G : Ct} {ρ ρ' : List Addr} {H H' : Hp} (e : ExtW G ρ ρ' H H') : ∀ {ps : List (Key × D)} {ks : List (Key × V)}, RKs G ρ H ps ks → RKs G ρ' H' ps ks
  | [], _, h => h
  | p :: ps, _, h => by
    obtain ⟨v, r, rfl, h2, h3⟩ := h
    exact ⟨v, r, rfl, RV.extW e _ _ h2, RKs.extW e h3⟩
theorem RFs.extW {G : Ct} {ρ ρ' : List Addr} {H H' : Hp} (e : ExtW G ρ ρ' H H') : ∀ {ps : List (Str × D)} {ks : List (Str × V)}, RFs G ρ H ps ks → RFs G ρ' H' ps ks
  | [], _, h => h
  | p :: ps, _, h => by
    obtain ⟨v, r, rfl, h2, h3⟩ := h
    exact ⟨v, r, rfl, RV.extW e _ _ h2, RFs.extW e h3⟩

theorem RKs.ext {G : Ct} {ρ ρ' : List Addr} {H H' : Hp} (e : Ext G ρ ρ' H H') {ps : List (Key × D)} {ks : List (Key × V)} (h : RKs G ρ H ps ks) : RKs G ρ' H' ps ks := RKs.extW e.w h
theorem RFs.ext {G : Ct} {ρ ρ' : List Addr} {H H' : Hp} (e : Ext G ρ ρ' H H') {ps : List (Str × D)} {ks : List (Str × V)} (h : RFs G ρ H ps ks) : RFs G ρ' H' ps ks := RFs.extW e.w h
/-- the dict at a, by its entries: keys as they are, where they stand, values -/
def NkObj (P : Program) (w : World) (a : Addr) (xs : List (NestedKey × Addr × Value)) (h : Heap) : Prop := (a == sysModules) = false ∧ xs.length ≤ sizeLine ∧
  ∃ o es ep, h.get? a = some o ∧ o.ExactDict ∧ o.data = .dict es ep ∧ es.toList = xs.map (entryOfKey (nestedKind P w)) ∧ (xs.map (·.1)).Nodup
def RNs (G : Ct) (ρ : List Addr) (H : Hp) : List (NestedKey × D × D) → List (NestedKey × Addr × Value) → Prop
  | [], xs => xs = []
  | p :: ps, xs => ∃ b u v r, xs = (p.1, b, u) :: r ∧ keyN p.2.1 = some p.1 ∧ p.1.depth ≤ 8 ∧ RV G ρ H p.2.1 (.ref b) ∧ RV G ρ H p.2.2 v ∧ RelV v u ∧ RNs G ρ H ps r
theorem RNs.extW {G : Ct} {ρ ρ' : List Addr} {H H' : Hp} (e : ExtW G ρ ρ' H H') : ∀ {ps : List (NestedKey × D × D)} {ks : List (NestedKey × Addr × Value)}, RNs G ρ H ps ks → RNs G ρ' H' ps ks
  | [], _, h => h
  | p :: ps, _, h => by
    obtain ⟨b, u, v, r, rfl, h1, h2, h3, h4, h5, h6⟩ := h
    exact ⟨b, u, v, r, rfl, h1, h2, RV.extW e _ _ h3, RV.extW e _ _ h4, h5, RNs.extW e h6⟩
theorem RNs.ext {G : Ct} {ρ ρ' : List Addr} {H H' : Hp} (e : Ext G ρ ρ' H H') {ps : List (NestedKey × D × D)} {ks : List (NestedKey × Addr × Value)} (h : RNs G ρ H ps ks) : RNs G ρ' H' ps ks := RNs.extW e.w h
def OM (G : Ct) (ρ : List Addr) (H : Hp) (a : Addr) : O → Prop
  | .dtn false kvs => ∃ P w xs, G.c.pw = some (P, w) ∧ H a = some (.ext (NkObj P w a xs)) ∧ RNs G ρ H kvs xs
  | .dtn true kvs => ∃ P w xs o, G.c.pw = some (P, w) ∧ H a = some (.frz o (.ext (NkObj P w a xs))) ∧ RNs G ρ H kvs xs
  | .lst ds => ∃ vs, H a = some (.lst vs) ∧ RVs G ρ H ds vs
  | .dct false kvs => ∃ ks, H a = some (.dK ks) ∧ RKs G ρ H kvs ks
  | .dct true kvs => ∃ ks o, H a = some (.frz o (.dK ks)) ∧ RKs G ρ H kvs ks
  | .ins c ds => ∃ dx vs, H a = some (.ins (G.c.cl c) dx ((G.c.fn c).zip vs)) ∧ RVs G ρ H ds vs ∧ ds.length ≤ (G.c.fn c).length
theorem OM.some {G : Ct} {ρ : List Addr} {H : Hp} {a : Addr} {o : O} (h : OM G ρ H a o) : H a ≠ none := by
  intro z
  match o, h with
  | .lst ds, ⟨_, e, _⟩ => rw [z] at e; cases e
  | .dct false kvs, ⟨_, e, _⟩ => rw [z] at e; cases e
  | .dct true kvs, ⟨_, _, e, _⟩ => rw [z] at e; cases e
  | .ins c fs, ⟨_, _, e, _⟩ => rw [z] at e; cases e
  | .dtn false kvs, ⟨_, _, _, _, e, _⟩ => rw [z] at e; cases e
  | .dtn true kvs, ⟨_, _, _, _, _, e, _⟩ => rw [z] at e; cases e
theorem OM.extW {G : Ct} {ρ ρ' : List Addr} {H H' : Hp} {a : Addr} {o : O} (e : ExtW G ρ ρ' H H') (s : H' a = H a) (h : OM G ρ H a o) : OM G ρ' H' a o := by
  match o, h with
  | .lst ds, ⟨vs, e1, h1⟩ => exact ⟨vs, s.trans e1, RVs.extW e _ _ h1⟩
  | .dct false kvs, ⟨ks, e1, h1⟩ => exact ⟨ks, s.trans e1, h1.extW e⟩
  | .dct true kvs, ⟨ks, o, e1, h1⟩ => exact ⟨ks, o, s.trans e1, h1.extW e⟩
  | .ins c ds, ⟨dx, vs, e1, h1, h2⟩ => exact ⟨dx, vs, s.trans e1, RVs.extW e _ _ h1, h2⟩
  | .dtn false kvs, ⟨P, w, xs, e0, e1, h1⟩ => exact ⟨P, w, xs, e0, s.trans e1, h1.extW e⟩
  | .dtn true kvs, ⟨P, w, xs, o, e0, e1, h1⟩ => exact ⟨P, w, xs, o, e0, s.trans e1, h1.extW e⟩
theorem OM.ext {G : Ct} {ρ ρ' : List Addr} {H H' : Hp} {a : Addr} {o : O} (e : Ext G ρ ρ' H H') (s : H' a = H a) (h : OM G ρ H a o) : OM G ρ' H' a o := OM.extW e.w s h

structure RelH (G : Ct) (ρ : List Addr) (H : Hp) (S : Sto) : Prop where
  len : ρ.length = S.length
  nd : ρ.Nodup
  obj : ∀ (n : Nat) (a : Addr) (o : O), ρ[n]? = some a → S[n]? = some o → OM G ρ H a o
/-- a name's value: what RV says, or the exception that the suite holds -/
def RVx (G : Ct) (ρ : List Addr) (H : Hp) (d : D) (v : V) : Prop := RV G ρ H d v ∨ ∃ ns ds a dd vs, d = .exc ns ds ∧ G.c.ex = some (a, dd) ∧ v = .ref a ∧ H dd = some (.xd (ns.zip vs)) ∧ RVs G ρ H ds vs
theorem RVx.extW {G : Ct} {ρ ρ' : List Addr} {H H' : Hp} (e : ExtW G ρ ρ' H H') {d : D} {v : V} (h : RVx G ρ H d v) : RVx G ρ' H' d v := by
  rcases h with h | ⟨ns, ds, a, dd, vs, h1, h2, h3, h4, h5⟩
  · exact .inl (RV.extW e d v h)
  · exact .inr ⟨ns, ds, a, dd, vs, h1, h2, h3, e.xd _ _ h4, RVs.extW e _ _ h5⟩
theorem RVx.rv {G : Ct} {ρ : List Addr} {H : Hp} {d : D} {v : V} (h : RVx G ρ H d v) (hd : ∀ ns ds, d ≠ .exc ns ds) : RV G ρ H d v := by
  rcases h with h | ⟨ns, ds, _, _, _, h1, _⟩
  · exact h
  · exact (hd ns ds h1).elim
structure Rel (G : Ct) (ρ : List Addr) (σ : St) (σd : Sl) (H : Hp) (S : Sto) : Prop where
  hp : RelH G ρ H S
  len : σ.length = σd.length
  sl : ∀ (i : Nat) (d : D), σd[i]? = some (some d) → ∃ v, σ[i]? = some (some v) ∧ RVx G ρ H d v
section
variable {G : Ct} {ρ ρ' : List Addr} {σ : St} {σd : Sl} {H H' : Hp} {S S' : Sto}
theorem Rel.step (r : Rel G ρ σ σd H S) (e : Ext G ρ ρ' H H') (h : RelH G ρ' H' S') : Rel G ρ' σ σd H' S' :=
  ⟨h, r.len, fun i d q => by
    obtain ⟨v, e1, h1⟩ := r.sl i d q
    exact ⟨v, e1, h1.extW e.w⟩⟩
theorem Rel.set (r : Rel G ρ σ σd H S) {d : D} {v : V} (h : RV G ρ H d v) (i : Nat) : Rel G ρ (σ.set i (some v)) (σd.set i (some d)) H S := by
  refine ⟨r.hp, by simp [r.len], fun j d' q => ?_⟩
  by_cases e : i = j
  · subst e
    have hi : i < σd.length := by
      have := (List.getElem?_eq_some_iff.mp q).1
      simpa using this
    rw [List.getElem?_set_self hi] at q
    cases q
    exact ⟨v, List.getElem?_set_self (by rw [r.len]; exact hi), .inl h⟩
  · rw [List.getElem?_set_ne e] at q
    rw [List.getElem?_set_ne e]
    exact r.sl j d' q
theorem sqt_ne {a : Addr} (h : H a ≠ none) (hn : ∀ xs, H a ≠ some (.tup xs)) (hf : ∀ o xs, H a ≠ some (.frz o (.tup xs))) {b : Addr} {xs : List V} {o : HO} (q : SqT G.K H b xs) : SqT G.K (upd H a o) b xs := by
  rcases q with (q | ⟨ob, q⟩) | q
  · refine .inl (.inl ?_)
    rw [upd_ne (fun z => by subst z; exact hn _ q)]
    exact q
  · refine .inl (.inr ⟨ob, ?_⟩)
    rw [upd_ne (fun z => by subst z; exact hf _ _ q)]
    exact q
  · exact .inr q
/-- a new object -/
theorem Ext.new {p : Addr} {o : HO} (h : H p = none) : Ext G ρ ρ H (upd H p o) := by
  refine ⟨⟨[], by simp⟩, fun a xs q => ?_, fun a ob u q => ?_, fun a vs q => ?_⟩
  · rcases q with (q | ⟨ob, q⟩) | q
    · exact .inl (.inl (by rw [upd_ne (ne_of_none q h)]; exact q))
    · exact .inl (.inr ⟨ob, by rw [upd_ne (ne_of_none q h)]; exact q⟩)
    · exact .inr q
  · rw [upd_ne (ne_of_none q h)]; exact q
  · rw [upd_ne (ne_of_none q h)]; exact q
theorem Ext.more {m : List Addr} (e : Ext G ρ ρ H H') : Ext G ρ (ρ ++ m) H H' := ⟨⟨m, rfl⟩, e.tup, e.frz, e.xd⟩
/-- an object that may change is changed -/
theorem Ext.write {a : Addr} {o : HO} (mu : Mut (H a)) : Ext G ρ ρ H (upd H a o) := by
  refine ⟨⟨[], by simp⟩, fun b xs q => ?_, fun b ob u q => ?_, fun b vs q => ?_⟩
  · refine sqt_ne ?_ ?_ ?_ q
    · intro z; rw [z] at mu; exact mu
    · intro xs z; rw [z] at mu; exact mu
    · intro o xs z; rw [z] at mu; exact mu
  · rw [upd_ne (fun z => by subst z; rw [q] at mu; exact mu)]; exact q
  · rw [upd_ne (fun z => by subst z; rw [q] at mu; exact mu)]; exact q
theorem RelH.fresh (r : RelH G ρ H S) {p : Addr} (h : H p = none) : p ∉ ρ := fun hm => by
  obtain ⟨n, hn, e⟩ := List.mem_iff_getElem.mp hm
  have hs : n < S.length := by rw [← r.len]; exact hn
  exact (r.obj n p S[n] (by rw [List.getElem?_eq_getElem hn, e]) (List.getElem?_eq_getElem hs)).some h
/-- all stands; a thing that is not of the store is new -/
theorem RelH.side (r : RelH G ρ H S) {p : Addr} {o : HO} (h : H p = none) : RelH G ρ (upd H p o) S :=
  ⟨r.len, r.nd, fun n a ob h1 h2 => (r.obj n a ob h1 h2).ext (Ext.new h) (upd_ne fun z => by
    subst z
    exact (r.obj n a ob h1 h2).some h)⟩
/-- a new object of the store -/
theorem RelH.new (r : RelH G ρ H S) {p : Addr} {o : HO} {ob : O} (h : H p = none) (hm : OM G (ρ ++ [p]) (upd H p o) p ob) : RelH G (ρ ++ [p]) (upd H p o) (S ++ [ob]) := by
  refine ⟨by simp [r.len], ?_, fun n a x h1 h2 => ?_⟩
  · rw [List.nodup_append]
    refine ⟨r.nd, by simp, fun a ha b hb => ?_⟩
    have e : b = p := by simpa using hb
    subst e
    intro z; subst z
    exact r.fresh h ha
  · by_cases hn : n < ρ.length
    · rw [List.getElem?_append_left hn] at h1
      rw [List.getElem?_append_left (by rw [← r.len]; exact hn)] at h2
      have q := r.obj n a x h1 h2
      exact q.ext ((Ext.new h).more) (upd_ne fun z => by subst z; exact q.some h)
    · have hn' : n = ρ.length := by
        have := (List.getElem?_eq_some_iff.mp h1).1
        simp at this; omega
      subst hn'
      rw [List.getElem?_append_right (Nat.le_refl _)] at h1
      rw [List.getElem?_append_right (by rw [r.len]; exact Nat.le_refl _)] at h2
      simp [r.len] at h1 h2
      subst h1; subst h2
      exact hm
/-- an object of the store is changed -/
theorem RelH.write (r : RelH G ρ H S) {n : Nat} {a : Addr} {o : HO} {ob : O} (hn : ρ[n]? = some a) (mu : Mut (H a)) (hm : OM G ρ (upd H a o) a ob) : RelH G ρ (upd H a o) (S.set n ob) := by
  refine ⟨by simp [r.len], r.nd, fun m b x h1 h2 => ?_⟩
  by_cases e : n = m
  · subst e
    rw [hn] at h1; cases h1
    have hs : n < S.length := by
      have := (List.getElem?_eq_some_iff.mp h2).1
      simpa using this
    rw [List.getElem?_set_self hs] at h2
    cases h2
    exact hm
  · rw [List.getElem?_set_ne e] at h2
    refine (r.obj m b x h1 h2).ext (Ext.write mu) (upd_ne fun z => ?_)
    subst z
    obtain ⟨i1, q1⟩ := List.getElem?_eq_some_iff.mp hn
    obtain ⟨i2, q2⟩ := List.getElem?_eq_some_iff.mp h1
    exact e ((List.getElem_inj r.nd).mp (q1.trans q2.symm))
end
end Mi
set_option Elab.async false
set_option autoImplicit false
set_option linter.all false
set_option maxRecDepth 100000
set_option maxHeartbeats 4000000
namespace Mi
open PySem L2

/-- an exception of the mirror and the true one -/
def ExR (G : Ct) (ρ : List Addr) (H : Hp) (c : Nat) (fs : List (Str × D)) (cls : Value) (dd : Option Addr) : Prop :=
  cls = .ref (G.c.xc c) ∧ (fs = [] ∨ ∃ d vs, dd = some d ∧ H d = some (.xd vs) ∧ RFs G ρ H fs vs)

section
variable {α β γ δ : Type}
def Out (G : Ct) (T : List Addr → Hp → α → β → Prop) (W : WX) (ρ : List Addr) (σ : St) (H : Hp) (r : R α) (Q : β → Hp → Prop) : Prop := match r with
  | .ok a S => ∀ b H' ρ', Ext G ρ ρ' H H' → RelH G ρ' H' S → T ρ' H' a b → Q b H'
  | .ex c fs S => ∀ H' ρ' cls dd, Ext G ρ ρ' H H' → RelH G ρ' H' S → ExR G ρ' H' c fs cls dd → W cls dd σ H'
  | .bad => False
/-- the reading of what the mirror F says -/
def tG (G : Ct) (T : List Addr → Hp → α → β → Prop) (W : WX) (F : Sl → Sto → R α) : St → Hp → (β → Hp → Prop) → Prop :=
  fun σ H Q => ∃ ρ σd S, Rel G ρ σ σd H S ∧ Out G T W ρ σ H (F σd S) Q
abbrev tF (G : Ct) (W : WX) (F : Sl → Sto → R D) : TE := tG G (RV G) W F
abbrev tT (G : Ct) (W : WX) (F : Sl → Sto → R Bool) : TT := tG G (fun _ _ a b => a = b) W F
abbrev tA (G : Ct) (W : WX) (F : Sl → Sto → R (List D)) : TA := tG G (RVs G) W F

variable {G : Ct} {T : List Addr → Hp → α → β → Prop} {T2 : List Addr → Hp → γ → δ → Prop} {W : WX} {ρ ρ' : List Addr} {σ : St} {σd : Sl} {H H' : Hp} {S S' : Sto}
theorem Out.mono {r : R α} {Q : β → Hp → Prop} (e : Ext G ρ ρ' H H') (h : Out G T W ρ σ H r Q) : Out G T W ρ' σ H' r Q := by
  cases r with
  | ok a S => exact fun b H2 ρ2 e2 r2 t => h b H2 ρ2 (e.trans e2) r2 t
  | ex c fs S => exact fun H2 ρ2 cls dd e2 r2 t => h H2 ρ2 cls dd (e.trans e2) r2 t
  | bad => exact h
theorem Out.to {r : R α} {k : α → Sto → R γ} {Q : δ → Hp → Prop} {Q1 : β → Hp → Prop} (h : Out G T2 W ρ σ H (r.to k) Q)
    (hq : ∀ a S1 b H1 ρ1, Ext G ρ ρ1 H H1 → RelH G ρ1 H1 S1 → T ρ1 H1 a b → Out G T2 W ρ1 σ H1 (k a S1) Q → Q1 b H1) : Out G T W ρ σ H r Q1 := by
  cases r with
  | ok a S => exact fun b H1 ρ1 e1 r1 t => hq a S b H1 ρ1 e1 r1 t (Out.mono e1 h)
  | ex c fs S => exact h
  | bad => exact h
theorem tG_to {F : Sl → Sto → R α} {k : α → Sto → R γ} {Q : δ → Hp → Prop} {Q1 : β → Hp → Prop} (rel : Rel G ρ σ σd H S) (h : Out G T2 W ρ σ H ((F σd S).to k) Q)
    (hq : ∀ a S1 b H1 ρ1, Ext G ρ ρ1 H H1 → Rel G ρ1 σ σd H1 S1 → T ρ1 H1 a b → Out G T2 W ρ1 σ H1 (k a S1) Q → Q1 b H1) : tG G T W F σ H Q1 :=
  ⟨ρ, σd, S, rel, h.to fun a S1 b H1 ρ1 e1 r1 t o => hq a S1 b H1 ρ1 e1 (rel.step e1 r1) t o⟩
theorem Out.ret {a : α} {b : β} {Q : β → Hp → Prop} (h : Out G T W ρ σ H (.ok a S) Q) (r : RelH G ρ H S) (t : T ρ H a b) : Q b H := h b H ρ Ext.refl r t
end
theorem PE.imp {X : Cx} {e : Expr} {t t' : TE} (h : PE X e t) (i : ∀ σ H Q, t' σ H Q → t σ H Q) : PE X e t' := ⟨fun pins s σ H Q I q => h.run pins s σ H Q I (i σ H Q q)⟩
theorem PT.imp {X : Cx} {e : Expr} {t t' : TT} (h : PT X e t) (i : ∀ σ H Q, t' σ H Q → t σ H Q) : PT X e t' := ⟨fun pins s σ H Q I q => h.run pins s σ H Q I (i σ H Q q)⟩
theorem PW.imp {X : Cx} {e : Expr} {t t' : TT} (h : PW X e t) (i : ∀ σ H Q, t' σ H Q → t σ H Q) : PW X e t' := ⟨fun wh pins s σ H Q I q => h.run wh pins s σ H Q I (i σ H Q q)⟩
theorem PA.imp {X : Cx} {e : List Expr} {t t' : TA} (h : PA X e t) (i : ∀ σ H Q, t' σ H Q → t σ H Q) : PA X e t' := ⟨fun p pins s σ H Q I q => h.run p pins s σ H Q I (i σ H Q q)⟩

/-! ### names, constants -/
def varD : D → Sto → R D
  | .exc _ _, _ => .bad
  | d, S => .ok d S
def FVar (i : Nat) : Sl → Sto → R D := fun σ S => match σ[i]? with
  | some (some d) => varD d S
  | _ => .bad
def FC (d : D) : Sl → Sto → R D := fun _ S => .ok d S
section
variable {X : Cx} {cl : Cl} {W : WX}
abbrev gx (X : Cx) (cl : Cl) : Ct := ⟨X.K, cl⟩
theorem f_var (i : Nat) {x : Str} {pos : Pos} (hN : X.N[i]? = some x := by rfl) (hv : Vis X.env.scope x := by first | exact Or.inl rfl | exact Or.inr (Or.inl rfl) | exact Or.inr (Or.inr rfl)) (hd : (x == ("__debug__" : Str)) = false := by decide)
    (hcd : (x == ("__classdict__" : Str)) = false := by decide) : PE X (.Name x pos) (tF (gx X cl) W (FVar i)) := by
  refine PE.imp (pe_var hN hv hd hcd) fun σ H Q h => ?_
  obtain ⟨ρ, σd, S, rel, o⟩ := h
  unfold FVar at o
  cases e : σd[i]? with
  | none => rw [e] at o; exact o.elim
  | some od =>
    rw [e] at o
    cases od with
    | none => exact o.elim
    | some d =>
      obtain ⟨v, hv, r⟩ := rel.sl i d e
      dsimp only at o
      rcases r with r | ⟨_, _, _, _, _, rfl, _⟩
      · refine ⟨v, hv, ?_⟩
        have o' : Out (gx X cl) (RV (gx X cl)) W ρ σ H (.ok d S) Q := by
          cases d <;> first | exact o | exact o.elim
        exact Out.ret o' rel.hp r
      · exact o.elim
theorem f_c {e : Expr} {v : V} {d : D} (h : PE X e (tC v)) (hr : ∀ ρ H, RV (gx X cl) ρ H d v) : PE X e (tF (gx X cl) W (FC d)) :=
  PE.imp h fun σ H Q ⟨ρ, σd, S, rel, o⟩ => Out.ret o rel.hp (hr ρ H)
theorem f_int {i j pos} : PE X (.Constant (.int i) j pos) (tF (gx X cl) W (FC (.int i))) := f_c pe_int fun _ _ => rfl
theorem f_bl {i j pos} : PE X (.Constant (.bool i) j pos) (tF (gx X cl) W (FC (.bl i))) := f_c pe_bl fun _ _ => rfl
theorem f_non {j pos} : PE X (.Constant .none j pos) (tF (gx X cl) W (FC .non)) := f_c pe_non fun _ _ => rfl
theorem f_str {i j pos} : PE X (.Constant (.str i) j pos) (tF (gx X cl) W (FC (.str i))) := f_c pe_str fun _ _ => rfl
theorem f_glob {x : Str} {v : V} {u : Value} {d : D} {pos : Pos} (hm : X.mg x = some u) (r : RelV v u) (hr : ∀ ρ H, RV (gx X cl) ρ H d v) (hg : Gl X x := by rfl) (hd : (x == ("__debug__" : Str)) = false := by decide) :
    PE X (.Name x pos) (tF (gx X cl) W (FC d)) := f_c (pe_glob hg hm r hd) hr

/-! ### argument lists, displays -/
def ANil : Sl → Sto → R (List D) := fun _ S => .ok [] S
def ACons (F : Sl → Sto → R D) (A : Sl → Sto → R (List D)) : Sl → Sto → R (List D) := fun σ S => (F σ S).to fun d S1 => (A σ S1).to fun ds S2 => .ok (d :: ds) S2
theorem a_nil : PA X [] (tA (gx X cl) W ANil) := PA.imp pa_nil fun σ H Q ⟨ρ, σd, S, rel, o⟩ => Out.ret o rel.hp rfl
theorem a_cons {e : Expr} {es : List Expr} {F : Sl → Sto → R D} {A : Sl → Sto → R (List D)} (ha : PE X e (tF (gx X cl) W F)) (hr : PA X es (tA (gx X cl) W A)) (hs : starEach (e :: es) X.env = (false, eval e X.env) :: starEach es X.env := by rfl) :
    PA X (e :: es) (tA (gx X cl) W (ACons F A)) := by
  refine PA.imp (pa_cons ha hr hs) fun σ H Q ⟨ρ, σd, S, rel, o⟩ => ?_
  refine tG_to rel o fun d S1 v H1 ρ1 e1 rel1 t1 o1 => ?_
  refine tG_to rel1 o1 fun ds S2 vs H2 ρ2 e2 rel2 t2 o2 => ?_
  exact Out.ret o2 rel2.hp ⟨v, vs, rfl, t1.ext e2, t2⟩
abbrev line : Nat := 100000
theorem line_le {n : Nat} (h : n ≤ line) : n ≤ sizeLine := Nat.le_trans h (by decide)
theorem line_lt {n : Nat} (h : n < line) : n < sizeLine := Nat.lt_of_lt_of_le h (by decide)
def newTup (xs : List D) (S : Sto) : R D := if xs.length ≤ line then .ok (.tup xs) S else .bad
def newLst (xs : List D) (S : Sto) : R D := if xs.length ≤ line then .ok (.loc S.length) (S ++ [.lst xs]) else .bad
def newDct (S : Sto) : R D := .ok (.loc S.length) (S ++ [.dct false []])
section
variable {G : Ct} {ρ : List Addr} {σ : St} {H : Hp} {S : Sto} {Q : VK}
/-- a new tuple -/
theorem out_tup {xs : List D} {vs : List V} (rel : RelH G ρ H S) (r : RVs G ρ H xs vs) (o : Out G (RV G) W ρ σ H (newTup xs S) Q) : vs.length ≤ sizeLine ∧ ∀ p, H p = none → Q (.ref p) (upd H p (.tup vs)) := by
  unfold newTup at o
  by_cases h : xs.length ≤ line
  · rw [if_pos h] at o
    refine ⟨by rw [← r.length]; exact line_le h, fun p hp => ?_⟩
    have e : Ext G ρ ρ H (upd H p (.tup vs)) := Ext.new hp
    exact o _ _ ρ e (rel.side hp) ⟨p, vs, rfl, SqT.of upd_same, r.ext e⟩
  · rw [if_neg h] at o; exact o.elim
theorem out_lst {xs : List D} {vs : List V} (rel : RelH G ρ H S) (r : RVs G ρ H xs vs) (o : Out G (RV G) W ρ σ H (newLst xs S) Q) : vs.length ≤ sizeLine ∧ ∀ p, H p = none → Q (.ref p) (upd H p (.lst vs)) := by
  unfold newLst at o
  by_cases h : xs.length ≤ line
  · rw [if_pos h] at o
    refine ⟨by rw [← r.length]; exact line_le h, fun p hp => ?_⟩
    have e : Ext G ρ (ρ ++ [p]) H (upd H p (.lst vs)) := (Ext.new hp).more
    refine o _ _ (ρ ++ [p]) e (rel.new hp ⟨vs, upd_same, r.ext e⟩) ⟨p, rfl, ?_⟩
    rw [← rel.len, List.getElem?_append_right (Nat.le_refl _)]; simp
  · rw [if_neg h] at o; exact o.elim
end
def FTup (A : Sl → Sto → R (List D)) : Sl → Sto → R D := fun σ S => (A σ S).to newTup
def FLst (A : Sl → Sto → R (List D)) : Sl → Sto → R D := fun σ S => (A σ S).to newLst
theorem f_tup {es : List Expr} {A : Sl → Sto → R (List D)} {x1 pos} (h : PA X es (tA (gx X cl) W A)) : PE X (.Tuple es x1 pos) (tF (gx X cl) W (FTup A)) :=
  PE.imp (pe_tup h) fun σ H Q ⟨ρ, σd, S, rel, o⟩ => tG_to rel o fun ds S1 vs H1 ρ1 e1 rel1 t1 o1 => out_tup rel1.hp t1 o1
theorem f_lst {es : List Expr} {A : Sl → Sto → R (List D)} {pos} (h : PA X es (tA (gx X cl) W A)) : PE X (.List es pos) (tF (gx X cl) W (FLst A)) :=
  PE.imp (pe_lst h) fun σ H Q ⟨ρ, σd, S, rel, o⟩ => tG_to rel o fun ds S1 vs H1 ρ1 e1 rel1 t1 o1 => out_lst rel1.hp t1 o1

/-! ### operators, comparisons -/
abbrev D2 := D → D → Sto → R D
/-- the rule r says what f says -/
def Op2 (G : Ct) (W : WX) (f : D2) (r : R2) : Prop := ∀ (ρ : List Addr) (σ : St) (H : Hp) (S : Sto) (a b : D) (x y : V) (Q : VK), RelH G ρ H S → RV G ρ H a x → RV G ρ H b y → Out G (RV G) W ρ σ H (f a b S) Q → r x y H Q
def F2 (f : D2) (A B : Sl → Sto → R D) : Sl → Sto → R D := fun σ S => (A σ S).to fun a S1 => (B σ S1).to fun b S2 => f a b S2
theorem f2_of {f : D2} {r : R2} {A B : Sl → Sto → R D} (hf : Op2 (gx X cl) W f r) : ∀ σ H Q, tF (gx X cl) W (F2 f A B) σ H Q → tOp r (tF (gx X cl) W A) (tF (gx X cl) W B) σ H Q :=
  fun σ H Q ⟨ρ, σd, S, rel, o⟩ => tG_to rel o fun a S1 x H1 ρ1 e1 rel1 t1 o1 => tG_to rel1 o1 fun b S2 y H2 ρ2 e2 rel2 t2 o2 => hf ρ2 σ H2 S2 a b x y Q rel2.hp (t1.ext e2) t2 o2
theorem f_op {op : Operator} {f : D2} {r : R2} {a b : Expr} {A B : Sl → Sto → R D} {pos : Pos} (ho : OpR X (binaryOp op) r) (hf : Op2 (gx X cl) W f r) (ha : PE X a (tF (gx X cl) W A)) (hb : PE X b (tF (gx X cl) W B)) :
    PE X (.BinOp a op b pos) (tF (gx X cl) W (F2 f A B)) := PE.imp (pe_op ho ha hb) (f2_of hf)
theorem f_cmp {op : CmpOp} {f : D2} {r : R2} {a b : Expr} {A B : Sl → Sto → R D} {pos : Pos} (ho : OpR X (compareOp op) r) (hf : Op2 (gx X cl) W f r) (ha : PE X a (tF (gx X cl) W A)) (hb : PE X b (tF (gx X cl) W B)) (hm : behindInMarks op b = false) :
    PE X (.Compare a [op] [b] pos) (tF (gx X cl) W (F2 f A B)) := PE.imp (pe_cmpR ho ha hb hm) (f2_of hf)
/-- a value that is a bool, as a test -/
def TB (A : Sl → Sto → R D) : Sl → Sto → R Bool := fun σ S => (A σ S).to fun a S1 => match a with
  | .bl b => .ok b S1
  | _ => .bad
theorem tb_of {t : TE} {A : Sl → Sto → R D} {Q : Bool → Hp → Prop} {σ : St} {H : Hp} (i : ∀ Q, tF (gx X cl) W A σ H Q → t σ H Q) (h : tT (gx X cl) W (TB A) σ H Q) : t σ H fun x H1 => ∃ c, x = .bl c ∧ Q c H1 := by
  obtain ⟨ρ, σd, S, rel, o⟩ := h
  refine i _ (tG_to rel o fun a S1 v H1 ρ1 e1 rel1 t1 o1 => ?_)
  cases a with
  | bl b => exact ⟨b, t1, Out.ret o1 rel1.hp rfl⟩
  | _ => exact o1.elim
theorem t_cmp {op : CmpOp} {f : D2} {r : R2} {a b : Expr} {A B : Sl → Sto → R D} {pos : Pos} (ho : OpR X (compareOp op) r) (hf : Op2 (gx X cl) W f r) (ha : PE X a (tF (gx X cl) W A)) (hb : PE X b (tF (gx X cl) W B)) (hm : behindInMarks op b = false) :
    PT X (.Compare a [op] [b] pos) (tT (gx X cl) W (TB (F2 f A B))) := PT.imp (pt_cmpR ho ha hb hm) fun σ H Q h => tb_of (f2_of hf σ H) h
theorem t_val {e : Expr} {A : Sl → Sto → R D} (h : PE X e (tF (gx X cl) W A)) (he : ∀ whole, isTrue e X.env whole = (do let v ← whole; standAt e.pos; holding [v] (truthy v)) := by intro _; rfl) : PT X e (tT (gx X cl) W (TB A)) :=
  PT.imp (pt_val h he) fun σ H Q h => tb_of (fun _ q => q) h

/-! ### and, or, not, if .. else -/
def TAnd (A B : Sl → Sto → R Bool) : Sl → Sto → R Bool := fun σ S => (A σ S).to fun a S1 => match a with
  | true => B σ S1
  | false => .ok false S1
def TOr (A B : Sl → Sto → R Bool) : Sl → Sto → R Bool := fun σ S => (A σ S).to fun a S1 => match a with
  | true => .ok true S1
  | false => B σ S1
def TNot (A : Sl → Sto → R Bool) : Sl → Sto → R Bool := fun σ S => (A σ S).to fun a S1 => .ok (!a) S1
theorem t_not {a : Expr} {A : Sl → Sto → R Bool} {pos} (ha : PT X a (tT (gx X cl) W A)) : PT X (.UnaryOp .Not a pos) (tT (gx X cl) W (TNot A)) :=
  PT.imp (pt_not ha) fun σ H Q ⟨ρ, σd, S, rel, o⟩ => tG_to rel o fun a S1 b H1 ρ1 e1 rel1 t1 o1 => by
    subst t1
    exact Out.ret o1 rel1.hp rfl
section
variable {a b : Expr} {rest : List Expr} {A B : Sl → Sto → R Bool} {E F : Sl → Sto → R D} {pos : Pos}
theorem w_and1 (ha : PT X a (tT (gx X cl) W A)) : PW X (.BoolOp .And [a] pos) (tT (gx X cl) W A) := pw_and1 ha
theorem w_or1 (ha : PT X a (tT (gx X cl) W A)) : PW X (.BoolOp .Or [a] pos) (tT (gx X cl) W A) := pw_or1 ha
theorem w_and (ha : PT X a (tT (gx X cl) W A)) (hb : PW X (.BoolOp .And (b :: rest) pos) (tT (gx X cl) W B)) : PW X (.BoolOp .And (a :: b :: rest) pos) (tT (gx X cl) W (TAnd A B)) :=
  PW.imp (pw_and ha hb) fun σ H Q ⟨ρ, σd, S, rel, o⟩ => tG_to rel o fun a S1 b H1 ρ1 e1 rel1 t1 o1 => by
    subst t1
    cases a with
    | true => exact ⟨ρ1, σd, S1, rel1, o1⟩
    | false => exact Out.ret o1 rel1.hp rfl
theorem w_or (ha : PT X a (tT (gx X cl) W A)) (hb : PW X (.BoolOp .Or (b :: rest) pos) (tT (gx X cl) W B)) : PW X (.BoolOp .Or (a :: b :: rest) pos) (tT (gx X cl) W (TOr A B)) :=
  PW.imp (pw_or ha hb) fun σ H Q ⟨ρ, σd, S, rel, o⟩ => tG_to rel o fun a S1 b H1 ρ1 e1 rel1 t1 o1 => by
    subst t1
    cases a with
    | true => exact Out.ret o1 rel1.hp rfl
    | false => exact ⟨ρ1, σd, S1, rel1, o1⟩
def FAnd (A B : Sl → Sto → R D) : Sl → Sto → R D := fun σ S => (A σ S).to fun a S1 => match a with
  | .bl true => B σ S1
  | .bl false => .ok (.bl false) S1
  | _ => .bad
def FOr (A B : Sl → Sto → R D) : Sl → Sto → R D := fun σ S => (A σ S).to fun a S1 => match a with
  | .bl true => .ok (.bl true) S1
  | .bl false => B σ S1
  | _ => .bad
def FNot (A : Sl → Sto → R D) : Sl → Sto → R D := fun σ S => (A σ S).to fun a S1 => match a with
  | .bl b => .ok (.bl (!b)) S1
  | _ => .bad
theorem f_one {op} (h : PE X a (tF (gx X cl) W E)) : PE X (.BoolOp op [a] pos) (tF (gx X cl) W E) := pe_one h
theorem f_and (ha : PE X a (tF (gx X cl) W E)) (hb : PE X (.BoolOp .And (b :: rest) pos) (tF (gx X cl) W F)) : PE X (.BoolOp .And (a :: b :: rest) pos) (tF (gx X cl) W (FAnd E F)) :=
  PE.imp (pe_and ha hb) fun σ H Q ⟨ρ, σd, S, rel, o⟩ => tG_to rel o fun a S1 x H1 ρ1 e1 rel1 t1 o1 => by
    cases a with
    | bl b =>
      refine ⟨b, t1, ?_⟩
      cases b with
      | true => exact ⟨ρ1, σd, S1, rel1, o1⟩
      | false => exact Out.ret o1 rel1.hp rfl
    | _ => exact o1.elim
theorem f_or (ha : PE X a (tF (gx X cl) W E)) (hb : PE X (.BoolOp .Or (b :: rest) pos) (tF (gx X cl) W F)) : PE X (.BoolOp .Or (a :: b :: rest) pos) (tF (gx X cl) W (FOr E F)) :=
  PE.imp (pe_or ha hb) fun σ H Q ⟨ρ, σd, S, rel, o⟩ => tG_to rel o fun a S1 x H1 ρ1 e1 rel1 t1 o1 => by
    cases a with
    | bl b =>
      refine ⟨b, t1, ?_⟩
      cases b with
      | true => exact Out.ret o1 rel1.hp rfl
      | false => exact ⟨ρ1, σd, S1, rel1, o1⟩
    | _ => exact o1.elim
theorem f_not (ha : PE X a (tF (gx X cl) W E)) : PE X (.UnaryOp .Not a pos) (tF (gx X cl) W (FNot E)) :=
  PE.imp (pe_not ha) fun σ H Q ⟨ρ, σd, S, rel, o⟩ => tG_to rel o fun a S1 x H1 ρ1 e1 rel1 t1 o1 => by
    cases a with
    | bl b => exact ⟨b, t1, Out.ret o1 rel1.hp rfl⟩
    | _ => exact o1.elim
def FIf (C : Sl → Sto → R Bool) (A B : Sl → Sto → R D) : Sl → Sto → R D := fun σ S => (C σ S).to fun c S1 => match c with
  | true => A σ S1
  | false => B σ S1
theorem f_if {c : Expr} {C : Sl → Sto → R Bool} (hc : PT X c (tT (gx X cl) W C)) (ha : PE X a (tF (gx X cl) W E)) (hb : PE X b (tF (gx X cl) W F)) : PE X (.IfExp c a b pos) (tF (gx X cl) W (FIf C E F)) :=
  PE.imp (pe_ifExp hc ha hb) fun σ H Q ⟨ρ, σd, S, rel, o⟩ => tG_to rel o fun k S1 b H1 ρ1 e1 rel1 t1 o1 => by
    subst t1
    cases k with
    | true => exact ⟨ρ1, σd, S1, rel1, o1⟩
    | false => exact ⟨ρ1, σd, S1, rel1, o1⟩
end

/-! ### the operators by data -/
def opSub : D2 := fun a b S => match a, b with
  | .int i, .int j => .ok (.int (i - j)) S
  | _, _ => .bad
def opMulI (i j : Int) (S : Sto) : R D := if i.natAbs < 2 ^ 64 ∨ j.natAbs < 2 ^ 64 then .ok (.int (i * j)) S else .bad
def opMul : D2 := fun a b S => match a, b with
  | .int i, .int j => opMulI i j S
  | _, _ => .bad
def opDiv : D2 := fun a b S => match a, b with
  | .int i, .int j => if j ≠ 0 ∧ j.natAbs < 1073741824 then .ok (.int (i.fdiv j)) S else .bad
  | _, _ => .bad
def opMod : D2 := fun a b S => match a, b with
  | .int i, .int j => if j ≠ 0 then .ok (.int (i.fmod j)) S else .bad
  | _, _ => .bad
def opPow : D2 := fun a b S => match a, b with
  | .int i, .int j => if 0 ≤ j ∧ j ≤ 1000000 ∧ i.natAbs < 2 ^ 64 then .ok (.int (i ^ j.toNat)) S else .bad
  | _, _ => .bad
def cmpI (p : Int → Int → Bool) : D2 := fun a b S => match a, b with
  | .int i, .int j => .ok (.bl (p i j)) S
  | _, _ => .bad
theorem o_sub : Op2 (gx X cl) W opSub (rI0 fun i j => .int (i - j)) := by
  intro ρ σ H S a b x y Q rel ra rb o
  cases a <;> cases b <;> first | exact o.elim | skip
  exact ⟨_, _, ra, rb, Out.ret o rel rfl⟩
theorem o_cmpI (p : Int → Int → Bool) : Op2 (gx X cl) W (cmpI p) (rI0 fun i j => .bl (p i j)) := by
  intro ρ σ H S a b x y Q rel ra rb o
  cases a <;> cases b <;> first | exact o.elim | skip
  exact ⟨_, _, ra, rb, Out.ret o rel rfl⟩
theorem o_mul : Op2 (gx X cl) W opMul (rI CMul fun i j => .int (i * j)) := by
  intro ρ σ H S a b x y Q rel ra rb o
  cases a <;> cases b <;> first | exact o.elim | skip
  rename_i i j
  refine ⟨i, j, ra, rb, ?_⟩
  unfold opMul opMulI at o
  dsimp only at o
  by_cases h : i.natAbs < 2 ^ 64 ∨ j.natAbs < 2 ^ 64
  · rw [if_pos h] at o
    refine ⟨?_, Out.ret o rel rfl⟩
    unfold CMul
    omega
  · rw [if_neg h] at o; exact o.elim
theorem o_div : Op2 (gx X cl) W opDiv (rI CDivN fun i j => .int (i.fdiv j)) := by
  intro ρ σ H S a b x y Q rel ra rb o
  cases a <;> cases b <;> first | exact o.elim | skip
  rename_i i j
  refine ⟨i, j, ra, rb, ?_⟩
  unfold opDiv at o
  dsimp only at o
  by_cases h : j ≠ 0 ∧ j.natAbs < 1073741824
  · rw [if_pos h] at o
    exact ⟨h, Out.ret o rel rfl⟩
  · rw [if_neg h] at o; exact o.elim
theorem o_mod : Op2 (gx X cl) W opMod (rI (fun _ j => j ≠ 0) fun i j => .int (i.fmod j)) := by
  intro ρ σ H S a b x y Q rel ra rb o
  cases a <;> cases b <;> first | exact o.elim | skip
  rename_i i j
  refine ⟨i, j, ra, rb, ?_⟩
  unfold opMod at o
  dsimp only at o
  by_cases h : j ≠ 0
  · rw [if_pos h] at o
    exact ⟨h, Out.ret o rel rfl⟩
  · rw [if_neg h] at o; exact o.elim
theorem o_pow : Op2 (gx X cl) W opPow (rI CPow fun i j => .int (i ^ j.toNat)) := by
  intro ρ σ H S a b x y Q rel ra rb o
  cases a <;> cases b <;> first | exact o.elim | skip
  rename_i i j
  refine ⟨i, j, ra, rb, ?_⟩
  unfold opPow at o
  dsimp only at o
  by_cases h : 0 ≤ j ∧ j ≤ 1000000 ∧ i.natAbs < 2 ^ 64
  · rw [if_pos h] at o
    exact ⟨h, Out.ret o rel rfl⟩
  · rw [if_neg h] at o; exact o.elim
def opNeg (F : Sl → Sto → R D) : Sl → Sto → R D := fun σ S => (F σ S).to fun a S1 => match a with
  | .int i => .ok (.int (-i)) S1
  | _ => .bad
theorem f_neg {a : Expr} {F : Sl → Sto → R D} {pos} (ha : PE X a (tF (gx X cl) W F)) : PE X (.UnaryOp .USub a pos) (tF (gx X cl) W (opNeg F)) :=
  PE.imp (pe_un un_neg ha) fun σ H Q ⟨ρ, σd, S, rel, o⟩ => tG_to rel o fun a S1 x H1 ρ1 e1 rel1 t1 o1 => by
    cases a with
    | int i => exact ⟨i, t1, Out.ret o1 rel1.hp rfl⟩
    | _ => exact o1.elim
end
end Mi
set_option Elab.async false
set_option autoImplicit false
set_option linter.all false
set_option maxRecDepth 100000
set_option maxHeartbeats 4000000
namespace Mi
open PySem L2

/-- the items of what may be read as a sequence -/
def seqD (S : Sto) : D → Option (List D)
  | .tup xs => some xs
  | .fl xs => some xs
  | .loc n => match S[n]? with
    | some (.lst xs) => some xs
    | _ => none
  | _ => none
section
variable {G : Ct} {ρ : List Addr} {H : Hp} {S : Sto}
theorem RelH.at (r : RelH G ρ H S) {n : Nat} {o : O} {v : V} (h : S[n]? = some o) (hv : RV G ρ H (.loc n) v) : ∃ a, v = .ref a ∧ ρ[n]? = some a ∧ OM G ρ H a o := by
  obtain ⟨a, e, ha⟩ := hv
  exact ⟨a, e, ha, r.obj n a o ha h⟩
theorem seq_of (r : RelH G ρ H S) {d : D} {v : V} {xs : List D} (hv : RV G ρ H d v) (h : seqD S d = some xs) : ∃ a vs, v = .ref a ∧ (SqL G.K H a vs ∨ SqT G.K H a vs) ∧ RVs G ρ H xs vs := by
  cases d with
  | tup ys =>
    cases h
    obtain ⟨a, vs, e, h1, h2⟩ := hv
    exact ⟨a, vs, e, .inr h1, h2⟩
  | fl ys =>
    cases h
    obtain ⟨a, vs, e, h1, h2⟩ := hv
    exact ⟨a, vs, e, .inl h1.1, h2⟩
  | loc n =>
    unfold seqD at h
    dsimp only at h
    split at h
    · rename_i ys e
      cases h
      obtain ⟨a, ea, _, vs, h1, h2⟩ := r.at e hv
      exact ⟨a, vs, ea, .inl (SqL.of h1), h2⟩
    · cases h
  | _ => cases h
theorem seqL_of (r : RelH G ρ H S) {n : Nat} {v : V} {xs : List D} (hv : RV G ρ H (.loc n) v) (h : S[n]? = some (.lst xs)) : ∃ a vs, v = .ref a ∧ ρ[n]? = some a ∧ H a = some (.lst vs) ∧ RVs G ρ H xs vs := by
  obtain ⟨a, ea, er, vs, h1, h2⟩ := r.at h hv
  exact ⟨a, vs, ea, er, h1, h2⟩
end

/-! ### data, for == -/
mutual
def pd0 (f : Nat → Option PyData) : D → Option PyData
  | .non => some .none
  | .bl b => some (.bool b)
  | .int i => some (.int i)
  | .str s => some (.str s)
  | .tup xs => (pds0 f xs).map .tuple
  | .fl xs => (pds0 f xs).map .list
  | .loc n => f n
  | .cls _ => none
  | .exc _ _ => none
def pds0 (f : Nat → Option PyData) : List D → Option (List PyData)
  | [] => some []
  | d :: ds => match pd0 f d with
    | some p => (pds0 f ds).map (p :: ·)
    | none => none
end
def pdN (S : Sto) : Nat → D → Option PyData
  | 0 => pd0 fun _ => none
  | k + 1 => pd0 fun n => match S[n]? with
    | some (.lst xs) => (pds0 (fun m => match S[m]? with
      | some (.lst ys) => (pds0 (fun _ => none) ys).map .list
      | _ => none) xs).map .list
    | _ => none
section
variable {G : Ct} {ρ : List Addr} {H : Hp} {S : Sto}
mutual
theorem pd0_of {f : Nat → Option PyData} (hf : ∀ n v p, f n = some p → RV G ρ H (.loc n) v → Dp G.K H v p) : ∀ (d : D) (v : V) (p : PyData), pd0 f d = some p → RV G ρ H d v → Dp G.K H v p
  | .non, v, p, h, r => by cases h; cases r; exact .non
  | .bl b, v, p, h, r => by cases h; cases r; exact .bl b
  | .int b, v, p, h, r => by cases h; cases r; exact .int b
  | .str b, v, p, h, r => by cases h; cases r; exact .str b
  | .tup xs, v, p, h, r => by
    obtain ⟨a, vs, rfl, h1, h2⟩ := r
    unfold pd0 at h
    cases e : pds0 f xs with
    | none => rw [e] at h; cases h
    | some ps =>
      rw [e] at h; cases h
      exact .tup h1 (pds0_of hf xs vs ps e h2)
  | .fl xs, v, p, h, r => by
    obtain ⟨a, vs, rfl, h1, h2⟩ := r
    unfold pd0 at h
    cases e : pds0 f xs with
    | none => rw [e] at h; cases h
    | some ps =>
      rw [e] at h; cases h
      exact .lst h1.1 (pds0_of hf xs vs ps e h2)
  | .loc n, v, p, h, r => hf n v p h r
  | .cls c, v, p, h, r => by cases h
  | .exc _ _, v, p, h, r => by cases h
theorem pds0_of {f : Nat → Option PyData} (hf : ∀ n v p, f n = some p → RV G ρ H (.loc n) v → Dp G.K H v p) : ∀ (ds : List D) (vs : List V) (ps : List PyData), pds0 f ds = some ps → RVs G ρ H ds vs → DpAll G.K H vs ps
  | [], vs, ps, h, r => by cases h; cases r; exact .nil
  | d :: ds, vs, ps, h, r => by
    obtain ⟨v, w, rfl, h1, h2⟩ := r
    unfold pds0 at h
    cases e : pd0 f d with
    | none => rw [e] at h; cases h
    | some q =>
      rw [e] at h
      dsimp only at h
      cases e2 : pds0 f ds with
      | none => rw [e2] at h; cases h
      | some qs =>
        rw [e2] at h; cases h
        exact .cons (pd0_of hf d v q e h1) (pds0_of hf ds w qs e2 h2)
end
theorem pdN_of (r : RelH G ρ H S) : ∀ (k : Nat) (d : D) (v : V) (p : PyData), pdN S k d = some p → RV G ρ H d v → Dp G.K H v p
  | 0, d, v, p, h, q => pd0_of (f := fun _ => none) (fun n v p h _ => by cases h) d v p h q
  | k + 1, d, v, p, h, q => by
    refine pd0_of (fun n v p h q => ?_) d v p h q
    skip
    split at h
    · rename_i xs e
      obtain ⟨a, vs, rfl, _, h1, h2⟩ := seqL_of r q e
      cases e2 : pds0 (fun m => match S[m]? with
        | some (.lst ys) => (pds0 (fun _ => none) ys).map .list
        | _ => none) xs with
      | none => rw [e2] at h; cases h
      | some ps =>
        rw [e2] at h; cases h
        refine .lst (SqL.of h1) (pds0_of (fun m v p h q => ?_) xs vs ps e2 h2)
        skip
        split at h
        · rename_i ys e3
          obtain ⟨a, vs, rfl, _, h1, h2⟩ := seqL_of r q e3
          cases e4 : pds0 (fun _ => none) ys with
          | none => rw [e4] at h; cases h
          | some ps =>
            rw [e4] at h; cases h
            exact .lst (SqL.of h1) (pds0_of (f := fun _ => none) (fun n v p h _ => by cases h) ys vs ps e4 h2)
        · cases h
    · cases h
end
def opEqB (neg : Bool) : D2 := fun a b S => match pdN S 1 a, pdN S 1 b with
  | some p, some q => if SeqAt.shaped p = true ∧ SeqAt.shaped q = true then .ok (.bl (if neg then !PyData.eqv p q else PyData.eqv p q)) S else .bad
  | _, _ => .bad
section
variable {X : Cx} {cl : Cl} {W : WX}
theorem o_eq : Op2 (gx X cl) W (opEqB false) (rEqD X.K) := by
  intro ρ σ H S a b x y Q rel ra rb o
  unfold opEqB at o
  cases e1 : pdN S 1 a with
  | none => rw [e1] at o; exact o.elim
  | some p =>
    cases e2 : pdN S 1 b with
    | none => rw [e1, e2] at o; exact o.elim
    | some q =>
      rw [e1, e2] at o
      dsimp only at o
      by_cases h : SeqAt.shaped p = true ∧ SeqAt.shaped q = true
      · rw [if_pos h] at o
        exact ⟨p, q, pdN_of rel 1 a x p e1 ra, pdN_of rel 1 b y q e2 rb, h.1, h.2, Out.ret o rel rfl⟩
      · rw [if_neg h] at o; exact o.elim
theorem o_ne : Op2 (gx X cl) W (opEqB true) (rNeD X.K) := by
  intro ρ σ H S a b x y Q rel ra rb o
  unfold opEqB at o
  cases e1 : pdN S 1 a with
  | none => rw [e1] at o; exact o.elim
  | some p =>
    cases e2 : pdN S 1 b with
    | none => rw [e1, e2] at o; exact o.elim
    | some q =>
      rw [e1, e2] at o
      dsimp only at o
      by_cases h : SeqAt.shaped p = true ∧ SeqAt.shaped q = true
      · rw [if_pos h] at o
        exact ⟨p, q, pdN_of rel 1 a x p e1 ra, pdN_of rel 1 b y q e2 rb, h.1, h.2, Out.ret o rel rfl⟩
      · rw [if_neg h] at o; exact o.elim

/-! ### is None -/
def opIsN (neg : Bool) : D2 := fun a b S => match b with
  | .non => .ok (.bl (if neg then !a.isNon else a.isNon)) S
  | _ => .bad
theorem o_isN : Op2 (gx X cl) W (opIsN false) (fun x y H Q => y = .non ∧ Q (.bl (decide (x = .non))) H) := by
  intro ρ σ H S a b x y Q rel ra rb o
  cases b <;> first | exact o.elim | skip
  refine ⟨rb, ?_⟩
  rw [ra.non]
  exact Out.ret o rel rfl
theorem o_notN : Op2 (gx X cl) W (opIsN true) (fun x y H Q => y = .non ∧ Q (.bl (!decide (x = .non))) H) := by
  intro ρ σ H S a b x y Q rel ra rb o
  cases b <;> first | exact o.elim | skip
  refine ⟨rb, ?_⟩
  rw [ra.non]
  exact Out.ret o rel rfl

/-! ### in a sequence of flat items -/
def flD : D → Option V
  | .non => some .non
  | .bl b => some (.bl b)
  | .int i => some (.int i)
  | .str s => some (.str s)
  | _ => none
def flDs : List D → Option (List V)
  | [] => some []
  | d :: ds => match flD d with
    | some v => (flDs ds).map (v :: ·)
    | none => none
theorem flD_of {G : Ct} {ρ : List Addr} {H : Hp} {d : D} {v w : V} (h : flD d = some w) (r : RV G ρ H d v) : v = w ∧ flatV v = true := by
  cases d <;> cases h <;> cases r <;> exact ⟨rfl, rfl⟩
theorem flDs_of {G : Ct} {ρ : List Addr} {H : Hp} : ∀ {ds : List D} {vs ws : List V}, flDs ds = some ws → RVs G ρ H ds vs → vs = ws ∧ vs.all flatV = true
  | [], _, _, h, r => by cases h; cases r; exact ⟨rfl, rfl⟩
  | d :: ds, _, _, h, r => by
    obtain ⟨v, w, rfl, h1, h2⟩ := r
    unfold flDs at h
    cases e : flD d with
    | none => rw [e] at h; cases h
    | some q =>
      rw [e] at h
      dsimp only at h
      cases e2 : flDs ds with
      | none => rw [e2] at h; cases h
      | some qs =>
        rw [e2] at h; cases h
        obtain ⟨e3, f3⟩ := flD_of e h1
        obtain ⟨e4, f4⟩ := flDs_of e2 h2
        rw [e3, e4]
        rw [e3] at f3
        rw [e4] at f4
        exact ⟨rfl, by rw [List.all_cons, f3, f4]; rfl⟩
def opIn (neg : Bool) : D2 := fun a b S => match flD a, (seqD S b).bind flDs with
  | some v, some ws => .ok (.bl (if neg then !inV v ws else inV v ws)) S
  | _, _ => .bad
theorem o_in (neg : Bool) : Op2 (gx X cl) W (opIn neg) (rIn X.K neg) := by
  intro ρ σ H S a b x y Q rel ra rb o
  unfold opIn at o
  cases e1 : flD a with
  | none => rw [e1] at o; exact o.elim
  | some v =>
    cases e2 : seqD S b with
    | none => rw [e1, e2] at o; exact o.elim
    | some ds =>
      cases e3 : flDs ds with
      | none => rw [e1, e2] at o; simp only [Option.bind, e3] at o; exact o.elim
      | some ws =>
        rw [e1, e2] at o
        simp only [Option.bind, e3] at o
        obtain ⟨p, vs, ey, hs, hr⟩ := seq_of rel rb e2
        obtain ⟨ex, fx⟩ := flD_of e1 ra
        obtain ⟨ev, fv⟩ := flDs_of e3 hr
        refine ⟨p, vs, ey, hs, fx, fv, ?_⟩
        rw [ex, ev]
        exact Out.ret o rel rfl

/-! ### a + b -/
def opAdd : D2 := fun a b S => match a, b with
  | .int i, .int j => .ok (.int (i + j)) S
  | .tup xs, .tup ys => if xs.length + ys.length ≤ line then .ok (.tup (xs ++ ys)) S else .bad
  | .loc n, .loc m => match S[n]?, S[m]? with
    | some (.lst xs), some (.lst ys) => if xs.length + ys.length ≤ line then .ok (.loc S.length) (S ++ [.lst (xs ++ ys)]) else .bad
    | _, _ => .bad
  | _, _ => .bad
def rAdd3 (K : PySem.W.Frag) : R2 := fun x y H Q => (rI0 (fun i j => V.int (i + j)) x y H Q ∨ rCatA K x y H Q) ∨ rCat x y H Q
theorem op_add3 : OpR X (binaryOp .Add) (rAdd3 X.K) := (OpR.or (OpR.or op_add op_catA) op_cat)
theorem o_add : Op2 (gx X cl) W opAdd (rAdd3 X.K) := by
  intro ρ σ H S a b x y Q rel ra rb o
  cases a <;> cases b <;> first | exact o.elim | skip
  · exact .inl (.inl ⟨_, _, ra, rb, Out.ret o rel rfl⟩)
  · rename_i xs ys
    unfold opAdd at o
    dsimp only at o
    by_cases h : xs.length + ys.length ≤ line
    · rw [if_pos h] at o
      obtain ⟨p, vs, e1, h1, r1⟩ := ra
      obtain ⟨q, ws, e2, h2, r2⟩ := rb
      refine .inl (.inr ⟨p, q, vs, ws, e1, e2, h1, h2, ?_, fun hv => ?_, fun hv hw => ?_, fun hv hw l hl => ?_⟩)
      · rw [← r1.length, ← r2.length]; exact line_le h
      · subst hv
        refine Out.ret o rel ⟨q, ws, rfl, h2, ?_⟩
        have : xs = [] := List.length_eq_zero_iff.mp (by rw [r1.length]; rfl)
        subst this
        exact r2
      · subst hw
        refine Out.ret o rel ⟨p, vs, rfl, h1, ?_⟩
        have : ys = [] := List.length_eq_zero_iff.mp (by rw [r2.length]; rfl)
        subst this
        rw [List.append_nil]
        exact r1
      · have e : Ext (gx X cl) ρ ρ H (upd H l (.tup (vs ++ ws))) := Ext.new hl
        exact o _ _ ρ e (rel.side hl) ⟨l, _, rfl, SqT.of upd_same, (r1.append r2).ext e⟩
    · rw [if_neg h] at o; exact o.elim
  · rename_i n m
    unfold opAdd at o
    dsimp only at o
    split at o
    · rename_i xs ys hx hy
      by_cases h : xs.length + ys.length ≤ line
      · rw [if_pos h] at o
        obtain ⟨p, vs, e1, _, h1, r1⟩ := seqL_of rel ra hx
        obtain ⟨q, ws, e2, _, h2, r2⟩ := seqL_of rel rb hy
        refine .inr ⟨p, q, vs, ws, e1, e2, h1, h2, by rw [← r1.length, ← r2.length]; exact line_le h, fun l hl => ?_⟩
        have e : Ext (gx X cl) ρ (ρ ++ [l]) H (upd H l (.lst (vs ++ ws))) := (Ext.new hl).more
        refine o _ _ (ρ ++ [l]) e (rel.new hl ⟨_, upd_same, (r1.append r2).ext e⟩) ⟨l, rfl, ?_⟩
        rw [← rel.len, List.getElem?_append_right (Nat.le_refl _)]; simp
      · rw [if_neg h] at o; exact o.elim
    · exact o.elim

/-! ### a[i], a[i:j] -/
def opIx : D2 := fun a b S => match seqD S a, b with
  | some xs, .int i => match atI xs i with
    | some d => .ok d S
    | none => .bad
  | _, _ => .bad
theorem atI_rv {G : Ct} {ρ : List Addr} {H : Hp} {ds : List D} {vs : List V} {i : Int} {d : D} (r : RVs G ρ H ds vs) (h : atI ds i = some d) : ∃ v, atI vs i = some v ∧ RV G ρ H d v := by
  unfold atI at h ⊢
  rw [r.length] at h
  cases e : ixN vs.length i with
  | none => rw [e] at h; cases h
  | some j =>
    rw [e] at h
    exact r.get h
def rIxS2 (K : PySem.W.Frag) : R2 := fun x y H Q => rIxT K x y H Q ∨ rIxL K x y H Q
theorem ix_two : IxR X (rIxS2 X.K) := by
  intro value slice pins s σ H x y v u Q I rx ry h hs
  rcases h with h | h
  · exact ix_tup value slice pins s σ H x y v u Q I rx ry h hs
  · exact ix_list value slice pins s σ H x y v u Q I rx ry h hs
theorem o_ix : Op2 (gx X cl) W opIx (rIxS2 X.K) := by
  intro ρ σ H S a b x y Q rel ra rb o
  unfold opIx at o
  cases e1 : seqD S a with
  | none => rw [e1] at o; exact o.elim
  | some xs =>
    rw [e1] at o
    cases b <;> first | exact o.elim | skip
    rename_i i
    dsimp only at o
    cases e2 : atI xs i with
    | none => rw [e2] at o; exact o.elim
    | some d =>
      rw [e2] at o
      obtain ⟨p, vs, ex, hs, hr⟩ := seq_of rel ra e1
      obtain ⟨v, hv, rv⟩ := atI_rv hr e2
      rcases hs with hs | hs
      · exact .inr ⟨p, vs, i, v, ex, rb, hs, hv, Out.ret o rel rv⟩
      · exact .inl ⟨p, vs, i, v, ex, rb, hs, hv, Out.ret o rel rv⟩
theorem f_ix {a b : Expr} {A B : Sl → Sto → R D} {pos : Pos} (ha : PE X a (tF (gx X cl) W A)) (hb : PE X b (tF (gx X cl) W B)) (hs : PlainIx b := by exact fun _ _ => rfl) :
    PE X (.Subscript a b pos) (tF (gx X cl) W (F2 opIx A B)) := PE.imp (pe_ix ix_two ha hb hs) (f2_of o_ix)

abbrev tP (G : Ct) (W : WX) (F : Sl → Sto → R (Option Int)) : TO := tG G (fun _ _ a b => a = b) W F
def PN : Sl → Sto → R (Option Int) := fun _ S => .ok none S
def PI_ (A : Sl → Sto → R D) : Sl → Sto → R (Option Int) := fun σ S => (A σ S).to fun a S1 => match a with
  | .int i => .ok (some i) S1
  | _ => .bad
theorem PO.imp {X : Cx} {e : Option Expr} {t t' : TO} (h : PO X e t) (i : ∀ σ H Q, t' σ H Q → t σ H Q) : PO X e t' := ⟨fun pins s σ H Q I q => h.run pins s σ H Q I (i σ H Q q)⟩
theorem p_none : PO X none (tP (gx X cl) W PN) := PO.imp po_none fun σ H Q ⟨ρ, σd, S, rel, o⟩ => Out.ret o rel.hp rfl
theorem p_some {e : Expr} {A : Sl → Sto → R D} (h : PE X e (tF (gx X cl) W A)) : PO X (some e) (tP (gx X cl) W (PI_ A)) :=
  PO.imp (po_some h) fun σ H Q ⟨ρ, σd, S, rel, o⟩ => tG_to rel o fun a S1 v H1 ρ1 e1 rel1 t1 o1 => by
    cases a with
    | int i => exact ⟨i, t1, Out.ret o1 rel1.hp rfl⟩
    | _ => exact o1.elim
def cutD (xs : List D) (lo hi : Option Int) : List D := (xs.drop (HT.sIx xs.length 0 lo)).take (HT.sIx xs.length xs.length hi - HT.sIx xs.length 0 lo)
theorem cut_rv {G : Ct} {ρ : List Addr} {H : Hp} {ds : List D} {vs : List V} {lo hi : Option Int} (r : RVs G ρ H ds vs) : RVs G ρ H (cutD ds lo hi) (cutV vs lo hi) := by
  unfold cutD cutV
  rw [r.length]
  exact (r.drop _).take _
def opSl (a : D) (lo hi : Option Int) (S : Sto) : R D := match a with
  | .tup xs => .ok (.tup (cutD xs lo hi)) S
  | .fl xs => .ok (.loc S.length) (S ++ [.lst (cutD xs lo hi)])
  | .loc n => match S[n]? with
    | some (.lst xs) => .ok (.loc S.length) (S ++ [.lst (cutD xs lo hi)])
    | _ => .bad
  | _ => .bad
def FSl (A : Sl → Sto → R D) (L U : Sl → Sto → R (Option Int)) : Sl → Sto → R D := fun σ S => (A σ S).to fun a S1 => (L σ S1).to fun lo S2 => (U σ S2).to fun hi S3 => opSl a lo hi S3
theorem f_slice {e : Expr} {lo hi : Option Expr} {A : Sl → Sto → R D} {L U : Sl → Sto → R (Option Int)} {p2 pos : Pos} (he : PE X e (tF (gx X cl) W A)) (hl : PO X lo (tP (gx X cl) W L)) (hu : PO X hi (tP (gx X cl) W U)) :
    PE X (.Subscript e (.Slice lo hi none p2) pos) (tF (gx X cl) W (FSl A L U)) := by
  refine PE.imp (pe_slice (SlR.or sl_tupA sl_list) he hl hu) fun σ H Q ⟨ρ, σd, S, rel, o⟩ => ?_
  refine tG_to rel o fun a S1 x H1 ρ1 e1 rel1 t1 o1 => ?_
  refine tG_to rel1 o1 fun l S2 l' H2 ρ2 e2 rel2 t2 o2 => ?_
  refine tG_to rel2 o2 fun u S3 u' H3 ρ3 e3 rel3 t3 o3 => ?_
  subst t2; subst t3
  have ta := t1.ext (e2.trans e3)
  cases a with
  | tup xs =>
    obtain ⟨p, vs, ex, h1, r1⟩ := ta
    refine .inl ⟨p, vs, ex, h1, fun hw => ?_, fun _ q hq => ?_⟩
    · have : cutV vs l u = vs := by
        unfold cutV
        rw [hw.1, hw.2]; simp
      refine Out.ret o3 rel3.hp ⟨p, vs, rfl, h1, ?_⟩
      have q := cut_rv (lo := l) (hi := u) r1
      rw [this] at q
      exact q
    · have e : Ext (gx X cl) ρ3 ρ3 H3 (upd H3 q (.tup (cutV vs l u))) := Ext.new hq
      exact o3 _ _ ρ3 e (rel3.hp.side hq) ⟨q, _, rfl, SqT.of upd_same, (cut_rv r1).ext e⟩
  | fl xs =>
    obtain ⟨p, vs, ex, h1, r1⟩ := ta
    refine .inr ⟨p, vs, ex, h1.1, fun q hq => ?_⟩
    have e : Ext (gx X cl) ρ3 (ρ3 ++ [q]) H3 (upd H3 q (.lst (cutV vs l u))) := (Ext.new hq).more
    refine o3 _ _ (ρ3 ++ [q]) e (rel3.hp.new hq ⟨_, upd_same, (cut_rv r1).ext e⟩) ⟨q, rfl, ?_⟩
    rw [← rel3.hp.len, List.getElem?_append_right (Nat.le_refl _)]; simp
  | loc n =>
    unfold opSl at o3
    dsimp only at o3
    split at o3
    · rename_i xs hx
      obtain ⟨p, vs, ex, _, h1, r1⟩ := seqL_of rel3.hp ta hx
      refine .inr ⟨p, vs, ex, SqL.of h1, fun q hq => ?_⟩
      have e : Ext (gx X cl) ρ3 (ρ3 ++ [q]) H3 (upd H3 q (.lst (cutV vs l u))) := (Ext.new hq).more
      refine o3 _ _ (ρ3 ++ [q]) e (rel3.hp.new hq ⟨_, upd_same, (cut_rv r1).ext e⟩) ⟨q, rfl, ?_⟩
      rw [← rel3.hp.len, List.getElem?_append_right (Nat.le_refl _)]; simp
    · exact o3.elim
  | _ => exact o3.elim

/-! ### built-in functions by their name -/
abbrev DN := List D → Sto → R D
def Fn (G : Ct) (W : WX) (f : DN) (r : List V → Hp → VK → Prop) : Prop := ∀ (ρ : List Addr) (σ : St) (H : Hp) (S : Sto) (ds : List D) (vs : List V) (Q : VK), RelH G ρ H S → RVs G ρ H ds vs → Out G (RV G) W ρ σ H (f ds S) Q → r vs H Q
def FB (f : DN) (A : Sl → Sto → R (List D)) : Sl → Sto → R D := fun σ S => (A σ S).to f
theorem fb_of {f : DN} {r : List V → Hp → VK → Prop} {A : Sl → Sto → R (List D)} (hf : Fn (gx X cl) W f r) : ∀ σ H Q, tF (gx X cl) W (FB f A) σ H Q → tCB r (tA (gx X cl) W A) σ H Q :=
  fun σ H Q ⟨ρ, σd, S, rel, o⟩ => tG_to rel o fun ds S1 vs H1 ρ1 e1 rel1 t1 o1 => hf ρ1 σ H1 S1 ds vs Q rel1.hp t1 o1
theorem CallR.or {X : Cx} {f : Value} {r r' : List V → Hp → VK → Prop} (h : CallR X f r) (h' : CallR X f r') : CallR X f (fun vs H Q => r vs H Q ∨ r' vs H Q) := by
  intro pins s σ H xs us Q I rv q
  rcases q with q | q
  · exact h pins s σ H xs us Q I rv q
  · exact h' pins s σ H xs us Q I rv q
def fnLen : DN := fun ds S => match ds with
  | [d] => match seqD S d with
    | some xs => .ok (.int xs.length) S
    | none => match d with
      | .loc n => match S[n]? with
        | some (.dct false kvs) => .ok (.int kvs.length) S
        | _ => .bad
      | _ => .bad
  | _ => .bad
def rLen2 (K : PySem.W.Frag) : List V → Hp → VK → Prop := fun vs H Q => (∃ p ys, vs = [.ref p] ∧ (SqL K H p ys ∨ SqT K H p ys) ∧ Q (.int ys.length) H) ∨ ∃ a kvs, vs = [V.ref a] ∧ H a = some (.dK kvs) ∧ Q (.int kvs.length) H
theorem call_len2 : CallR X (.builtin "len") (rLen2 X.K) := CallR.or call_len_seq call_lenD
theorem RKs.length {G : Ct} {ρ : List Addr} {H : Hp} : ∀ {ds : List (Key × D)} {vs : List (Key × V)}, RKs G ρ H ds vs → ds.length = vs.length
  | [], _, h => by cases h; rfl
  | d :: ds, _, h => by
    obtain ⟨v, r, rfl, _, h2⟩ := h
    simp [RKs.length h2]
theorem rvs1 {G : Ct} {ρ : List Addr} {H : Hp} {d : D} {vs : List V} (h : RVs G ρ H [d] vs) : ∃ v, vs = [v] ∧ RV G ρ H d v := by
  obtain ⟨v, r, rfl, h1, h2⟩ := h
  cases h2
  exact ⟨v, rfl, h1⟩
theorem rvs2 {G : Ct} {ρ : List Addr} {H : Hp} {d e : D} {vs : List V} (h : RVs G ρ H [d, e] vs) : ∃ v w, vs = [v, w] ∧ RV G ρ H d v ∧ RV G ρ H e w := by
  obtain ⟨v, r, rfl, h1, h2⟩ := h
  obtain ⟨w, rfl, h3⟩ := rvs1 h2
  exact ⟨v, w, rfl, h1, h3⟩
theorem n_len : Fn (gx X cl) W fnLen (rLen2 X.K) := by
  intro ρ σ H S ds vs Q rel r o
  match ds, r, o with
  | [], _, o => exact o.elim
  | [d], r, o =>
    obtain ⟨v, rfl, rv⟩ := rvs1 r
    unfold fnLen at o
    dsimp only at o
    cases e : seqD S d with
    | some xs =>
      rw [e] at o
      obtain ⟨a, ws, rfl, h1, h2⟩ := seq_of rel rv e
      refine .inl ⟨a, ws, rfl, h1, ?_⟩
      rw [← h2.length]
      exact Out.ret o rel rfl
    | none =>
      rw [e] at o
      cases d <;> first | exact o.elim | skip
      rename_i n
      dsimp only at o
      split at o
      · rename_i kvs hk
        obtain ⟨a, rfl, _, ks, h1, h2⟩ := rel.at hk rv
        refine .inr ⟨a, ks, rfl, h1, ?_⟩
        rw [← h2.length]
        exact Out.ret o rel rfl
      · exact o.elim
  | _ :: _ :: _, _, o => exact o.elim
def fnInt : DN := fun ds S => match ds with
  | [.int i] => .ok (.int i) S
  | [.bl k] => .ok (.int (if k then 1 else 0)) S
  | _ => .bad
theorem n_int : Fn (gx X cl) W fnInt (fun xs H Q => (∃ i, xs = [.int i] ∧ Q (.int i) H) ∨ ∃ k, xs = [.bl k] ∧ Q (.int (if k then 1 else 0)) H) := by
  intro ρ σ H S ds vs Q rel r o
  match ds, r, o with
  | [], _, o => exact o.elim
  | [d], r, o =>
    obtain ⟨v, rfl, rv⟩ := rvs1 r
    cases d <;> first | exact o.elim | skip
    · cases rv
      exact .inr ⟨_, rfl, Out.ret o rel rfl⟩
    · cases rv
      exact .inl ⟨_, rfl, Out.ret o rel rfl⟩
  | d :: _ :: _, _, o => cases d <;> exact o.elim
def fnList : DN := fun ds S => match ds with
  | [d] => match seqD S d with
    | some xs => .ok (.loc S.length) (S ++ [.lst xs])
    | none => .bad
  | _ => .bad
theorem n_list : Fn (gx X cl) W fnList (fun xs H Q => ∃ p ys, xs = [.ref p] ∧ (SqL X.K H p ys ∨ SqT X.K H p ys) ∧ ∀ l, H l = none → Q (.ref l) (upd H l (.lst ys))) := by
  intro ρ σ H S ds vs Q rel r o
  match ds, r, o with
  | [], _, o => exact o.elim
  | [d], r, o =>
    obtain ⟨v, rfl, rv⟩ := rvs1 r
    unfold fnList at o
    dsimp only at o
    cases e : seqD S d with
    | some xs =>
      rw [e] at o
      obtain ⟨a, ws, rfl, h1, h2⟩ := seq_of rel rv e
      refine ⟨a, ws, rfl, h1, fun l hl => ?_⟩
      have e : Ext (gx X cl) ρ (ρ ++ [l]) H (upd H l (.lst ws)) := (Ext.new hl).more
      refine o _ _ (ρ ++ [l]) e (rel.new hl ⟨_, upd_same, h2.ext e⟩) ⟨l, rfl, ?_⟩
      rw [← rel.len, List.getElem?_append_right (Nat.le_refl _)]; simp
    | none => rw [e] at o; exact o.elim
  | _ :: _ :: _, _, o => exact o.elim
def fnTuple : DN := fun ds S => match ds with
  | [.tup xs] => .ok (.tup xs) S
  | [.loc n] => match S[n]? with
    | some (.lst xs) => .ok (.tup xs) S
    | _ => .bad
  | _ => .bad
theorem n_tuple : Fn (gx X cl) W fnTuple (fun xs H Q => ∃ p ys, xs = [.ref p] ∧ ((SqL X.K H p ys ∧ ∀ l, H l = none → Q (.ref l) (upd H l (.tup ys))) ∨ (SqT X.K H p ys ∧ Q (.ref p) H))) := by
  intro ρ σ H S ds vs Q rel r o
  match ds, r, o with
  | [], _, o => exact o.elim
  | [d], r, o =>
    obtain ⟨v, rfl, rv⟩ := rvs1 r
    cases d <;> first | exact o.elim | skip
    · rename_i xs
      obtain ⟨a, ws, rfl, h1, h2⟩ := rv
      exact ⟨a, ws, rfl, .inr ⟨h1, Out.ret o rel ⟨a, ws, rfl, h1, h2⟩⟩⟩
    · rename_i n
      unfold fnTuple at o
      dsimp only at o
      split at o
      · rename_i xs hx
        obtain ⟨a, ws, rfl, _, h1, h2⟩ := seqL_of rel rv hx
        refine ⟨a, ws, rfl, .inl ⟨SqL.of h1, fun l hl => ?_⟩⟩
        have e : Ext (gx X cl) ρ ρ H (upd H l (.tup ws)) := Ext.new hl
        exact o _ _ ρ e (rel.side hl) ⟨l, _, rfl, SqT.of upd_same, h2.ext e⟩
      · exact o.elim
  | d :: _ :: _, _, o => cases d <;> exact o.elim
def intsD : List D → Option (List Int)
  | [] => some []
  | .int i :: ds => (intsD ds).map (i :: ·)
  | _ :: _ => none
theorem intsD_of {G : Ct} {ρ : List Addr} {H : Hp} : ∀ {ds : List D} {vs : List V} {ns : List Int}, intsD ds = some ns → RVs G ρ H ds vs → vs = ns.map V.int
  | [], _, _, h, r => by cases h; cases r; rfl
  | d :: ds, _, _, h, r => by
    obtain ⟨v, w, rfl, h1, h2⟩ := r
    cases d <;> first | cases h | skip
    rename_i i
    unfold intsD at h
    cases e : intsD ds with
    | none => rw [e] at h; cases h
    | some ms =>
      rw [e] at h; cases h
      cases h1
      rw [intsD_of e h2, List.map_cons]
def fnSum : DN := fun ds S => match ds with
  | [.loc n] => match S[n]? with
    | some (.lst xs) => match intsD xs with
      | some ns => .ok (.int ns.sum) S
      | none => .bad
    | _ => .bad
  | [.fl xs] => match intsD xs with
      | some ns => .ok (.int ns.sum) S
      | none => .bad
  | _ => .bad
theorem n_sum : Fn (gx X cl) W fnSum (rSum X.K) := by
  intro ρ σ H S ds vs Q rel r o
  match ds, r, o with
  | [], _, o => exact o.elim
  | [d], r, o =>
    obtain ⟨v, rfl, rv⟩ := rvs1 r
    cases d <;> first | exact o.elim | skip
    · rename_i xs
      unfold fnSum at o
      dsimp only at o
      cases e : intsD xs with
      | none => rw [e] at o; exact o.elim
      | some ns =>
        rw [e] at o
        obtain ⟨a, ws, rfl, h1, h2⟩ := rv
        refine ⟨a, ns, rfl, ?_, Out.ret o rel rfl⟩
        rw [← intsD_of e h2]
        exact h1.1
    · rename_i n
      unfold fnSum at o
      dsimp only at o
      split at o
      · rename_i xs hx
        cases e : intsD xs with
        | none => rw [e] at o; exact o.elim
        | some ns =>
          rw [e] at o
          obtain ⟨a, ws, rfl, _, h1, h2⟩ := seqL_of rel rv hx
          refine ⟨a, ns, rfl, ?_, Out.ret o rel rfl⟩
          rw [← intsD_of e h2]
          exact SqL.of h1
      · exact o.elim
  | d :: _ :: _, _, o => cases d <;> exact o.elim
theorem f_callB {id : String} {x : Str} {f : DN} {r : List V → Hp → VK → Prop} {e : Expr} {es : List Expr} {A : Sl → Sto → R (List D)} {p pos : Pos} (hc : CallR X (.builtin id) r) (hf : Fn (gx X cl) W f r) (hm : X.mg x = none) (ha : PA X (e :: es) (tA (gx X cl) W A))
    (hg : Gl X x := by rfl) (hv : bootBuiltins x = some (.builtin id) := by decide +kernel) (hn : x ≠ "__name__" := by decide) (hdb : (x == ("__debug__" : Str)) = false := by decide)
    (he : starEach (e :: es) X.env = (false, eval e X.env) :: starEach es X.env := by rfl) (hpl : (backTo pos (starEach es X.env)).any (·.1) = false := by rfl) : PE X (.Call (.Name x p) (e :: es) [] pos) (tF (gx X cl) W (FB f A)) :=
  PE.imp (pe_callB hc hg hm hv ha hn hdb he hpl) (fb_of hf)
theorem f_callTy {T : String} {x : Str} {f : DN} {r : List V → Hp → VK → Prop} {e : Expr} {es : List Expr} {A : Sl → Sto → R (List D)} {p pos : Pos} (hc : CallR X (.type T) r) (hf : Fn (gx X cl) W f r) (hm : X.mg x = none) (ha : PA X (e :: es) (tA (gx X cl) W A))
    (hg : Gl X x := by rfl) (hv : bootBuiltins x = some (.type T) := by decide +kernel) (hn : x ≠ "__name__" := by decide) (hdb : (x == ("__debug__" : Str)) = false := by decide)
    (he : starEach (e :: es) X.env = (false, eval e X.env) :: starEach es X.env := by rfl) (hpl : (backTo pos (starEach es X.env)).any (·.1) = false := by rfl) : PE X (.Call (.Name x p) (e :: es) [] pos) (tF (gx X cl) W (FB f A)) :=
  PE.imp (pe_callTy hc hg hm hv ha hn hdb he hpl) (fb_of hf)
end
end Mi
set_option Elab.async false
set_option autoImplicit false
set_option linter.all false
set_option maxRecDepth 100000
set_option maxHeartbeats 4000000
namespace Mi
open PySem L2

section
variable {G : Ct} {W : WX} {ρ ρ' : List Addr} {σ : St} {σd : Sl} {H H' : Hp} {S S' : Sto} {D : Ends}
/-- what is wanted at a statement's end -/
def EndAt (G : Ct) (ρ : List Addr) (H : Hp) (σ : St) (D : Ends) : Fl → Prop
  | .nx => D.nx σ H
  | .rt d => ∀ v, RV G ρ H d v → D.rt v H
  | .bk => D.bk σ H
  | .ct => D.ct σ H
def OutS (G : Ct) (W : WX) (ρ : List Addr) (H : Hp) (r : RS) (D : Ends) : Prop := match r with
  | .ok f σd S => ∀ σ' H' ρ', Ext G ρ ρ' H H' → Rel G ρ' σ' σd H' S → EndAt G ρ' H' σ' D f
  | .ex c fs σd S => ∀ σ' H' ρ' cls dd, Ext G ρ ρ' H H' → Rel G ρ' σ' σd H' S → ExR G ρ' H' c fs cls dd → W cls dd σ' H'
  | .bad => False
def tS (G : Ct) (W : WX) (B : Sl → Sto → RS) : TS := fun D σ H => ∃ ρ σd S, Rel G ρ σ σd H S ∧ OutS G W ρ H (B σd S) D
theorem OutS.mono {r : RS} (e : Ext G ρ ρ' H H') (h : OutS G W ρ H r D) : OutS G W ρ' H' r D := by
  cases r with
  | ok f σd S => exact fun σ2 H2 ρ2 e2 r2 => h σ2 H2 ρ2 (e.trans e2) r2
  | ex c fs σd S => exact fun σ2 H2 ρ2 cls dd e2 r2 t => h σ2 H2 ρ2 cls dd (e.trans e2) r2 t
  | bad => exact h
theorem OutS.now {f : Fl} (h : OutS G W ρ H (.ok f σd S) D) (r : Rel G ρ σ σd H S) : EndAt G ρ H σ D f := h σ H ρ Ext.refl r
/-- an expression, then what its value makes of the statement -/
def toS {α : Type} (σ : Sl) (r : R α) (k : α → Sto → RS) : RS := match r with
  | .ok a S => k a S
  | .ex c fs S => .ex c fs σ S
  | .bad => .bad
theorem tG_toS {α β : Type} {T : List Addr → Hp → α → β → Prop} {F : Sl → Sto → R α} {k : α → Sto → RS} {Q1 : β → Hp → Prop} (rel : Rel G ρ σ σd H S) (h : OutS G W ρ H (toS σd (F σd S) k) D)
    (hq : ∀ a S1 b H1 ρ1, Ext G ρ ρ1 H H1 → Rel G ρ1 σ σd H1 S1 → T ρ1 H1 a b → OutS G W ρ1 H1 (k a S1) D → Q1 b H1) : tG G T W F σ H Q1 := by
  refine ⟨ρ, σd, S, rel, ?_⟩
  cases e : F σd S with
  | ok a S1 =>
    rw [e] at h
    exact fun b H1 ρ1 e1 r1 t => hq a S1 b H1 ρ1 e1 (rel.step e1 r1) t (OutS.mono e1 h)
  | ex c fs S1 =>
    rw [e] at h
    exact fun H1 ρ1 cls dd e1 r1 x => h σ H1 ρ1 cls dd e1 (rel.step e1 r1) x
  | bad => rw [e] at h; exact h
end
theorem PS.imp {X : Cx} {e : Stmt} {t t' : TS} (h : PS X e t) (i : ∀ D σ H, t' D σ H → t D σ H) : PS X e t' := ⟨fun pins s σ H D I q => h.run pins s σ H D I (i D σ H q)⟩
theorem PSs.imp {X : Cx} {e : List Stmt} {t t' : TS} (h : PSs X e t) (i : ∀ D σ H, t' D σ H → t D σ H) : PSs X e t' := ⟨fun pins s σ H D I q => h.run pins s σ H D I (i D σ H q)⟩

/-! ### statements -/
def SNx : Sl → Sto → RS := fun σ S => .ok .nx σ S
def SSeq (A B : Sl → Sto → RS) : Sl → Sto → RS := fun σ S => match A σ S with
  | .ok .nx σ1 S1 => B σ1 S1
  | .ok (.rt d) σ1 S1 => .ok (.rt d) σ1 S1
  | .ok .bk σ1 S1 => .ok .bk σ1 S1
  | .ok .ct σ1 S1 => .ok .ct σ1 S1
  | .ex c fs σ1 S1 => .ex c fs σ1 S1
  | .bad => .bad
def SExp (F : Sl → Sto → R D) : Sl → Sto → RS := fun σ S => toS σ (F σ S) fun _ S1 => .ok .nx σ S1
def SRet (F : Sl → Sto → R D) : Sl → Sto → RS := fun σ S => toS σ (F σ S) fun d S1 => .ok (.rt d) σ S1
def SRetN : Sl → Sto → RS := fun σ S => .ok (.rt .non) σ S
def SIf (C : Sl → Sto → R Bool) (A B : Sl → Sto → RS) : Sl → Sto → RS := fun σ S => toS σ (C σ S) fun c S1 => match c with
  | true => A σ S1
  | false => B σ S1
def SBk : Sl → Sto → RS := fun σ S => .ok .bk σ S
def SCt : Sl → Sto → RS := fun σ S => .ok .ct σ S
section
variable {X : Cx} {cl : Cl} {W : WX} {st : Stmt} {rest : List Stmt} {A B : Sl → Sto → RS} {F : Sl → Sto → R D} {e : Expr} {pos : Pos}
theorem ss_nil : PSs X [] (tS (gx X cl) W SNx) := PSs.imp pss_nil fun D σ H ⟨ρ, σd, S, rel, o⟩ => OutS.now o rel
theorem ss_cons (h1 : PS X st (tS (gx X cl) W A)) (h2 : PSs X rest (tS (gx X cl) W B)) : PSs X (st :: rest) (tS (gx X cl) W (SSeq A B)) := by
  refine PSs.imp (pss_cons h1 h2) fun D σ H ⟨ρ, σd, S, rel, o⟩ => ?_
  refine ⟨ρ, σd, S, rel, ?_⟩
  unfold SSeq at o
  cases e : A σd S with
  | ok f σ1 S1 =>
    rw [e] at o
    cases f with
    | nx => exact fun σ' H' ρ' e1 r1 => ⟨ρ', σ1, S1, r1, OutS.mono e1 o⟩
    | rt d => exact o
    | bk => exact o
    | ct => exact o
  | ex c fs σ1 S1 => rw [e] at o; exact o
  | bad => rw [e] at o; exact o
theorem ss_one (h1 : PS X st (tS (gx X cl) W A)) : PSs X [st] (tS (gx X cl) W A) := pss_one h1
theorem s_pass : PS X (.Pass pos) (tS (gx X cl) W SNx) := PS.imp ps_pass fun D σ H ⟨ρ, σd, S, rel, o⟩ => OutS.now o rel
theorem s_break : PS X (.Break pos) (tS (gx X cl) W SBk) := PS.imp ps_break fun D σ H ⟨ρ, σd, S, rel, o⟩ => OutS.now o rel
theorem s_cont : PS X (.Continue pos) (tS (gx X cl) W SCt) := PS.imp ps_continue fun D σ H ⟨ρ, σd, S, rel, o⟩ => OutS.now o rel
theorem s_doc {x j pos'} : PS X (.Expr (.Constant (.str x) j pos) pos') (tS (gx X cl) W SNx) := PS.imp ps_doc fun D σ H ⟨ρ, σd, S, rel, o⟩ => OutS.now o rel
theorem s_expr (he : PE X e (tF (gx X cl) W F)) (hs : swapsWith e none pos.line X.env = pure false := by rfl) : PS X (.Expr e pos) (tS (gx X cl) W (SExp F)) :=
  PS.imp (ps_expr he hs) fun D σ H ⟨ρ, σd, S, rel, o⟩ => tG_toS rel o fun a S1 b H1 ρ1 e1 rel1 t1 o1 => OutS.now o1 rel1
theorem s_ret (he : PE X e (tF (gx X cl) W F)) : PS X (.Return (some e) pos) (tS (gx X cl) W (SRet F)) :=
  PS.imp (ps_ret he) fun D σ H ⟨ρ, σd, S, rel, o⟩ => tG_toS rel o fun a S1 b H1 ρ1 e1 rel1 t1 o1 => OutS.now o1 rel1 b t1
theorem s_retN : PS X (.Return none pos) (tS (gx X cl) W SRetN) := PS.imp ps_retN fun D σ H ⟨ρ, σd, S, rel, o⟩ => OutS.now o rel _ rfl
theorem s_if {c : Expr} {a b : List Stmt} {C : Sl → Sto → R Bool} (hc : PT X c (tT (gx X cl) W C)) (ha : PSs X a (tS (gx X cl) W A)) (hb : PSs X b (tS (gx X cl) W B)) : PS X (.If c a b pos) (tS (gx X cl) W (SIf C A B)) :=
  PS.imp (ps_if hc ha hb) fun D σ H ⟨ρ, σd, S, rel, o⟩ => tG_toS rel o fun k S1 b H1 ρ1 e1 rel1 t1 o1 => by
    subst t1
    cases k with
    | true => exact ⟨ρ1, σd, S1, rel1, o1⟩
    | false => exact ⟨ρ1, σd, S1, rel1, o1⟩
end

/-! ### targets -/
/-- what a target makes of a value: the names and the store behind -/
abbrev TgF := D → Sl → Sto → RS
def tTg (G : Ct) (W : WX) (g : TgF) : TG := fun v σ H Q => ∃ ρ σd S d, Rel G ρ σ σd H S ∧ RV G ρ H d v ∧ OutS G W ρ H (g d σd S) { nx := Q, rt := fun _ _ => False }
def gN (i : Nat) : TgF := fun d σ S => .ok .nx (σ.set i (some d)) S
section
variable {X : Cx} {cl : Cl} {W : WX}
theorem PG.imp {X : Cx} {e : Expr} {t t' : TG} (h : PG X e t) (i : ∀ v σ H Q, t' v σ H Q → t v σ H Q) : PG X e t' := ⟨fun pins s σ H x u Q I r q => h.run pins s σ H x u Q I r (i x σ H Q q)⟩
theorem g_name {i : Nat} {x : Str} {pos : Pos} (hN : X.N.Nodup) (hi : X.N[i]? = some x := by rfl) (hx : Loc X.env.scope x := by first | exact Or.inl rfl | exact Or.inr rfl)
    (hf : X.fn x = true ∨ X.env.scope.names.lookup x = some .local := by first | exact .inl rfl | exact .inr rfl) : PG X (.Name x pos) (tTg (gx X cl) W (gN i)) :=
  PG.imp (pg_name hN hi hx hf) fun v σ H Q ⟨ρ, σd, S, d, rel, r, o⟩ => by
    have q := OutS.now o (rel.set r i)
    exact q
/-- a row of targets -/
def gsN : List TgF → List D → Sl → Sto → RS
  | [], [], σ, S => .ok .nx σ S
  | g :: gs, d :: ds, σ, S => match g d σ S with
    | .ok .nx σ1 S1 => gsN gs ds σ1 S1
    | .ok _ _ _ => .bad
    | .ex c fs σ1 S1 => .ex c fs σ1 S1
    | .bad => .bad
  | _, _, _, _ => .bad
def tTgs (G : Ct) (W : WX) (gs : List TgF) : TGs := fun vs σ H Q => ∃ ρ σd S ds, Rel G ρ σ σd H S ∧ RVs G ρ H ds vs ∧ OutS G W ρ H (gsN gs ds σd S) { nx := Q, rt := fun _ _ => False }
theorem PGs.imp {X : Cx} {e : List Expr} {t t' : TGs} (h : PGs X e t) (i : ∀ v σ H Q, t' v σ H Q → t v σ H Q) : PGs X e t' := ⟨fun pins s σ H x u Q I r q => h.run pins s σ H x u Q I r (i x σ H Q q)⟩
theorem gs_nil : PGs X [] (tTgs (gx X cl) W []) := PGs.imp pgs_nil fun v σ H Q ⟨ρ, σd, S, ds, rel, r, o⟩ => by
  cases ds with
  | nil =>
    cases r
    exact ⟨rfl, OutS.now o rel⟩
  | cons d ds => exact o.elim
theorem gs_cons {e : Expr} {es : List Expr} {g : TgF} {gs : List TgF} (h1 : PG X e (tTg (gx X cl) W g)) (h2 : PGs X es (tTgs (gx X cl) W gs)) (hs : (assignEach (e :: es) X.env).map (·.2) = assign e X.env :: (assignEach es X.env).map (·.2) := by rfl) : PGs X (e :: es) (tTgs (gx X cl) W (g :: gs)) := by
  refine PGs.imp (pgs_cons h1 h2 hs) fun v σ H Q ⟨ρ, σd, S, ds, rel, r, o⟩ => ?_
  cases ds with
  | nil => exact o.elim
  | cons d ds =>
    obtain ⟨x, xs, rfl, r1, r2⟩ := r
    refine ⟨x, xs, rfl, ρ, σd, S, d, rel, r1, ?_⟩
    unfold gsN at o
    cases e1 : g d σd S with
    | ok f σ1 S1 =>
      rw [e1] at o
      cases f with
      | nx => exact fun σ' H' ρ' ex rel' => ⟨ρ', σ1, S1, ds, rel', r2.ext ex, OutS.mono ex o⟩
      | _ => exact o.elim
    | ex c fs σ1 S1 => rw [e1] at o; exact o
    | bad => rw [e1] at o; exact o
def gT (n : Nat) (gs : List TgF) : TgF := fun d σ S => match d with
  | .tup ds => if ds.length = n then gsN gs ds σ S else .bad
  | _ => .bad
theorem g_tup {es : List Expr} {k n : Nat} {gs : List TgF} {pos : Pos} (hc : X.calm = true) (h : PGs X es (tTgs (gx X cl) W gs))
    (hn : (assignEach es X.env).length = n := by rfl) (hst : (assignEach es X.env).findIdx? (·.1) = none := by rfl) : PG X (.Tuple es k pos) (tTg (gx X cl) W (gT n gs)) := by
  refine PG.imp (pg_tup hc h hn hst) fun v σ H Q ⟨ρ, σd, S, d, rel, r, o⟩ => ?_
  cases d <;> first | exact o.elim | skip
  rename_i ds
  unfold gT at o
  dsimp only at o
  by_cases hl : ds.length = n
  · rw [if_pos hl] at o
    obtain ⟨a, vs, rfl, h1, h2⟩ := r
    exact ⟨a, vs, rfl, h1, by rw [← h2.length]; exact hl, ρ, σd, S, ds, rel, h2, o⟩
  · rw [if_neg hl] at o; exact o.elim
def SAsg (F : Sl → Sto → R D) (g : TgF) : Sl → Sto → RS := fun σ S => toS σ (F σ S) fun d S1 => g d σ S1
theorem tTg_of {G : Ct} {g : TgF} {ρ : List Addr} {σ : L2.St} {σd : Sl} {H : Hp} {S : Sto} {d : D} {v : V} {D : Ends} (rel : Rel G ρ σ σd H S) (r : RV G ρ H d v) (o : OutS G W ρ H (g d σd S) D) (hg : ∀ f σ1 S1, g d σd S = .ok f σ1 S1 → f = .nx) :
    tTg G W g v σ H D.nx := by
  refine ⟨ρ, σd, S, d, rel, r, ?_⟩
  cases e : g d σd S with
  | ok f σ1 S1 =>
    rw [e] at o
    have := hg f σ1 S1 e
    subst this
    exact o
  | ex c fs σ1 S1 => rw [e] at o; exact o
  | bad => rw [e] at o; exact o
/-- a target goes on -/
def NxT (g : TgF) : Prop := ∀ d σ S f σ1 S1, g d σ S = .ok f σ1 S1 → f = .nx
theorem nx_name {i : Nat} : NxT (gN i) := fun d σ S f σ1 S1 h => by cases h; rfl
theorem nx_tup {n : Nat} {gs : List TgF} : NxT (gT n gs) := fun d σ S f σ1 S1 h => by
  cases d <;> first | cases h | skip
  rename_i ds
  unfold gT at h
  dsimp only at h
  by_cases hl : ds.length = n
  · rw [if_pos hl] at h
    clear hl
    induction gs generalizing ds σ S with
    | nil =>
      cases ds with
      | nil => cases h; rfl
      | cons _ _ => cases h
    | cons g gs ih =>
      cases ds with
      | nil => cases h
      | cons d ds =>
        unfold gsN at h
        split at h
        · exact ih _ _ _ h
        · cases h
        · cases h
        · cases h
  · rw [if_neg hl] at h; cases h
theorem s_asg {tg e : Expr} {F : Sl → Sto → R D} {g : TgF} {pos : Pos} (he : PE X e (tF (gx X cl) W F)) (hg : PG X tg (tTg (gx X cl) W g)) (hx : NxT g) (hs : swapsWithSole [tg] e pos.line X.env = pure false := by rfl) (hw : swappedStores [tg] e X.env = pure none := by rfl)
    (h1 : (assignEach [tg] X.env).map (·.2) = [assign tg X.env] := by rfl) : PS X (.Assign [tg] e pos) (tS (gx X cl) W (SAsg F g)) :=
  PS.imp (ps_asg he hg hs hw h1) fun D σ H ⟨ρ, σd, S, rel, o⟩ => tG_toS rel o fun a S1 b H1 ρ1 e1 rel1 t1 o1 => tTg_of rel1 t1 o1 (hx a σd S1)
theorem s_set {i : Nat} {x : Str} {e : Expr} {F : Sl → Sto → R D} {pos pos' : Pos} (hN : X.N.Nodup) (he : PE X e (tF (gx X cl) W F)) (hi : X.N[i]? = some x := by rfl) (hx : Loc X.env.scope x := by first | exact Or.inl rfl | exact Or.inr rfl)
    (hs : swapsWith e (some (.Name x pos')) pos.line X.env = pure false := by rfl) (hf : X.fn x = true ∨ X.env.scope.names.lookup x = some .local := by first | exact .inl rfl | exact .inr rfl) :
    PS X (.Assign [.Name x pos'] e pos) (tS (gx X cl) W (SAsg F (gN i))) :=
  PS.imp (ps_set hN hi hx he hs hf) fun D σ H ⟨ρ, σd, S, rel, o⟩ => tG_toS rel o fun a S1 b H1 ρ1 e1 rel1 t1 o1 => OutS.now o1 (rel1.set t1 i)
/-- a, b = x, y -/
def SPar (i j : Nat) (A : Sl → Sto → R (List D)) : Sl → Sto → RS := fun σ S => toS σ (A σ S) fun ds S1 => match ds with
  | [d, e] => .ok .nx ((σ.set i (some d)).set j (some e)) S1
  | _ => .bad
theorem s_par {i j : Nat} {x y : Str} {a b : Expr} {A : Sl → Sto → R (List D)} {px py pt : Pos} {kt k2 pt2} {pos : Pos} (hc : X.calm = true) (hN : X.N.Nodup) (ha : PA X [a, b] (tA (gx X cl) W A)) (hi : X.N[i]? = some x := by rfl) (hj : X.N[j]? = some y := by rfl) (hij : i ≠ j := by decide)
    (hx : X.env.scope.names.lookup x = some .local := by rfl) (hy : X.env.scope.names.lookup y = some .local := by rfl)
    (p1 : PS X (.Assign [.Tuple [.Name x px, .Name y py] kt pt] (.Tuple [a, b] k2 pt2) pos) (tPar i j (tA (gx X cl) W A))) :
    PS X (.Assign [.Tuple [.Name x px, .Name y py] kt pt] (.Tuple [a, b] k2 pt2) pos) (tS (gx X cl) W (SPar i j A)) :=
  PS.imp p1 fun D σ H ⟨ρ, σd, S, rel, o⟩ => tG_toS rel o fun ds S1 vs H1 ρ1 e1 rel1 t1 o1 => by
    match ds, t1, o1 with
    | [], _, o1 => exact o1.elim
    | [_], _, o1 => exact o1.elim
    | [d, e], t1, o1 =>
      obtain ⟨v, w, rfl, h1, h2⟩ := rvs2 t1
      exact ⟨v, w, rfl, OutS.now o1 ((rel1.set h1 i).set h2 j)⟩
    | _ :: _ :: _ :: _, _, o1 => exact o1.elim
end

/-! ### a def by its body; a call -/
def spF (G : Ct) (m : DN) : Sp := fun vs H Q E => ∃ ρ ds S, RelH G ρ H S ∧ RVs G ρ H ds vs ∧ Out G (RV G) (fun cls d _ H => E cls d H) ρ [] H (m ds S) Q
def padD (n : Nat) (ds : List D) : Sl := ds.map some ++ List.replicate (n - ds.length) none
def endD (r : RS) : R D := match r with
  | .ok (.rt d) _ S => .ok d S
  | .ok .nx _ S => .ok .non S
  | .ok .bk _ S => .bad
  | .ok .ct _ S => .bad
  | .ex c fs _ S => .ex c fs S
  | .bad => .bad
def mFn (np nn : Nat) (B : Sl → Sto → RS) : DN := fun ds S => if ds.length = np then endD (B (padD nn ds) S) else .bad
theorem rel_pad {G : Ct} {ρ : List Addr} {H : Hp} {S : Sto} {N : List Str} {ds : List D} {vs : List V} (r : RelH G ρ H S) (rv : RVs G ρ H ds vs) : Rel G ρ (start N vs) (padD N.length ds) H S := by
  refine ⟨r, by simp [L2.start, padD, rv.length], fun i d h => ?_⟩
  unfold padD at h
  by_cases hi : i < ds.length
  · rw [List.getElem?_append_left (by simpa using hi), List.getElem?_map] at h
    cases e : ds[i]? with
    | none => rw [e] at h; cases h
    | some d' =>
      rw [e] at h
      cases h
      obtain ⟨v, hv, q⟩ := rv.get e
      refine ⟨v, ?_, .inl q⟩
      unfold L2.start
      have hi2 : i < vs.length := by rw [← rv.length]; exact hi
      rw [List.getElem?_append_left (by simpa using hi2), List.getElem?_map, hv]
      rfl
  · rw [List.getElem?_append_right (by simpa using hi), List.getElem?_replicate] at h
    split at h <;> cases h
section
variable {P : Program} {w : World} {K : PySem.W.Frag} {mg : Str → Option Value} {base : Heap} {cl : Cl}
/-- a def that hands its values in by position -/
theorem fn_ok {x qual : Str} {st : Stmt} {f : Addr} {fd : FuncData} {N ps : List Str} {k : Nat} {B : Sl → Sto → RS} (F : Fun K x qual st f fd) (S : FnScope N ps (defScope st)) 
    (hb : ∀ (cdv : Value) (A : Around) (outer : List Env) (s : Shared) (H : Hp) (E : XK), Room k (A.deeper (PyProof.Rows.envOfC qual (defScope st) s.heap.objs.size f cdv)) →
      Takes (cxOf (L2.CX P w) P w K mg base N qual (defScope st) f cdv A outer s H E) (fun cls d _ H => E cls d H) →
      PSs (cxOf (L2.CX P w) P w K mg base N qual (defScope st) f cdv A outer s H E) (defBody st) (tS ⟨K, cl⟩ (fun cls d _ H => E cls d H) B)) :
    FnOk P w K mg base (L2.CX P w) (k + 1) f fd ps (spF ⟨K, cl⟩ (mFn ps.length N.length B)) := by
  refine F.okX S (fun vs H Q E h => ?_) (fun cdv A outer s H vs Q E hr h => ?_)
  · obtain ⟨ρ, ds, S, rel, rv, o⟩ := h
    unfold mFn at o
    by_cases hl : ds.length = ps.length
    · rw [← rv.length]; exact hl
    · rw [if_neg hl] at o; exact o.elim
  · refine ⟨_, hb cdv A outer s H E hr (takes_of rfl rfl rfl rfl), ?_⟩
    obtain ⟨ρ, ds, S, rel, rv, o⟩ := h
    unfold mFn at o
    by_cases hl : ds.length = ps.length
    · rw [if_pos hl] at o
      refine ⟨ρ, padD N.length ds, S, rel_pad rel rv, ?_⟩
      cases e : B (padD N.length ds) S with
      | ok fl σ1 S1 =>
        rw [e] at o
        cases fl with
        | nx => exact fun σ' H' ρ' ex r => o .non H' ρ' ex r.hp rfl
        | rt d => exact fun σ' H' ρ' ex r v q => o v H' ρ' ex r.hp q
        | bk => exact o.elim
        | ct => exact o.elim
      | ex c fs σ1 S1 =>
        rw [e] at o
        exact fun σ' H' ρ' cls dd ex r x => o H' ρ' cls dd ex r.hp x
      | bad => rw [e] at o; exact o.elim
    · rw [if_neg hl] at o; exact o.elim
end
section
variable {X : Cx} {cl : Cl} {W : WX} {pins : List (Addr × Obj)} {σ : L2.St} {H : Hp} {s : Shared}
theorem run_R {k : Nat} {f : Addr} {sp : Sp} {Q : VK} {us : List Value} {vs : List V} (F : FnR X.prog X.w X.K X.mg X.base (L2.CX X.prog X.w) k f sp) (hr : Room k X.A) (tk : Takes X W) (I : Inv X pins σ H s) (r : Vals vs us) (h : sp vs H Q (WE W σ)) :
    wpAny (model X.prog X.w) X.A (call (.ref f) us) (EP X pins σ Q) X.xe s := by
  refine wpAny_call (codeAny_mono (F X.A X.stack s H us vs Q (WE W σ) hr I.env0 r h) fun r s' hq => ?_)
  cases r with
  | error e => exact passAt tk σ pins H s e s' I hq
  | ok fl =>
    cases fl with
    | ret u => exact I.after hq
    | next => exact False.elim hq
    | brk => exact False.elim hq
    | cont => exact False.elim hq
theorem out_we {G : Ct} {ρ : List Addr} {r : R D} {Q : VK} (o : Out G (RV G) W ρ σ H r Q) : Out G (RV G) (fun cls d _ H => WE W σ cls d H) ρ [] H r Q := by
  cases r with
  | ok a S => exact o
  | ex c fs S => exact o
  | bad => exact o
/-- f(e, ..) -/
theorem f_call {k : Nat} {f : Addr} {m : DN} {x : Str} {e : Expr} {es : List Expr} {A : Sl → Sto → R (List D)} {p pos : Pos} (F : FnR X.prog X.w X.K X.mg X.base (L2.CX X.prog X.w) k f (spF (gx X cl) m)) (hr : Room k X.A) (tk : Takes X W) (hm : X.mg x = some (.ref f)) (hk : PySem.W.keepIn X.K (.ref f) = true)
    (ha : PA X (e :: es) (tA (gx X cl) W A)) (hg : Gl X x := by rfl) (hdb : (x == ("__debug__" : Str)) = false := by decide) (he : starEach (e :: es) X.env = (false, eval e X.env) :: starEach es X.env := by rfl) (hpl : (backTo pos (starEach es X.env)).any (·.1) = false := by rfl) :
    PE X (.Call (.Name x p) (e :: es) [] pos) (tF (gx X cl) W (FB m A)) := by
  refine ⟨fun pins s σ H Q I ⟨ρ, σd, S, rel, o⟩ => ?_⟩
  refine wpAny_Call_Name_kw (ld_glob I hg hm ?_ hdb)
  refine PySem.W.callWith_K (h₀ := X.base) I.ok.mod.kin hk (thn (ha.run pos pins s σ H _ I (tG_to rel o fun ds S1 vs H1 ρ1 e1 rel1 t1 o1 => (⟨ρ1, ds, S1, rel1.hp, t1, out_we o1⟩ : spF (gx X cl) m vs H1 Q (WE W σ)))) fun us s1 ⟨vs, H1, I1, r, q⟩ => ⟨I1.kIn, ?_⟩) he hpl
  exact run_R F hr tk I1 r q
end
end Mi
set_option Elab.async false
set_option autoImplicit false
set_option linter.all false
set_option maxRecDepth 100000
set_option maxHeartbeats 4000000
namespace Mi
open PySem L2

/-! ### where a def stands, what a global name holds -/
def DefAt (K : PySem.W.Frag) (mg : Str → Option Value) (x : Str) (st : Stmt) (f : Addr) : Prop := ∃ fd, Fun K x x st f fd ∧ mg x = some (.ref f)
def GlobD (G : Ct) (mg : Str → Option Value) (x : Str) (d : D) : Prop := ∃ u v, mg x = some u ∧ RelV v u ∧ ∀ ρ H, RV G ρ H d v
section
variable {X : Cx} {cl : Cl} {W : WX}
theorem f_globD {x : Str} {d : D} {pos : Pos} (h : GlobD (gx X cl) X.mg x d) (hg : Gl X x := by rfl) (hd : (x == ("__debug__" : Str)) = false := by decide) : PE X (.Name x pos) (tF (gx X cl) W (FC d)) := by
  obtain ⟨u, v, hm, r, hr⟩ := h
  exact f_glob hm r hr hg hd
end
section
variable {P : Program} {w : World} {K : PySem.W.Frag} {mg : Str → Option Value} {base : Heap} {CX : CXT} {k : Nat} {f : Addr} {sp : Sp}
theorem fnr_of {fd : FuncData} {ps : List Str} (F : FnOk P w K mg base CX k f fd ps sp) (hb : Binds K fd ps []) : FnR P w K mg base CX k f sp :=
  (F.raw hb .nil).imp fun vs H Q E h => by rw [List.append_nil]; exact h
theorem fnr_bad {G : Ct} {m : DN} (h : ∀ ds S, m ds S = .bad) : FnR P w K mg base CX k f (spF G m) := fun A outer s H us vs Q E hr e0 r ⟨ρ, ds, S, rel, rv, o⟩ => by
  rw [h] at o
  exact o.elim
end

/-! ### two comparisons in a row -/
def FCh (f g : D2) (A B C : Sl → Sto → R D) : Sl → Sto → R D := fun σ S => (A σ S).to fun a S1 => (B σ S1).to fun b S2 => (f a b S2).to fun z S3 => match z with
  | .bl true => (C σ S3).to fun c S4 => g b c S4
  | .bl false => .ok (.bl false) S3
  | _ => .bad
section
variable {X : Cx} {cl : Cl} {W : WX} {op op' : CmpOp} {f g : D2} {r r' : R2} {a b c : Expr} {A B C : Sl → Sto → R D} {pos : Pos}
theorem fch_of (hf : Op2 (gx X cl) W f r) (hg : Op2 (gx X cl) W g r') : ∀ σ H Q, tF (gx X cl) W (FCh f g A B C) σ H Q → tChain r r' (tF (gx X cl) W A) (tF (gx X cl) W B) (tF (gx X cl) W C) σ H Q :=
  fun σ H Q ⟨ρ, σd, S, rel, o⟩ => tG_to rel o fun a S1 x H1 ρ1 e1 rel1 t1 o1 => tG_to rel1 o1 fun b S2 y H2 ρ2 e2 rel2 t2 o2 => by
    refine hf ρ2 σ H2 S2 a b x y _ rel2.hp (t1.ext e2) t2 (o2.to fun z S3 v H3 ρ3 e3 r3 t3 o3 => ?_)
    cases z with
    | bl k =>
      refine ⟨k, t3, ?_⟩
      cases k with
      | true => exact tG_to (rel2.step e3 r3) o3 fun c S4 w H4 ρ4 e4 rel4 t4 o4 => hg ρ4 σ H4 S4 b c y w Q rel4.hp (t2.ext (e3.trans e4)) t4 o4
      | false => exact Out.ret o3 r3 rfl
    | _ => exact o3.elim
theorem f_chain (ho : OpR X (compareOp op) r) (hf : Op2 (gx X cl) W f r) (ho' : OpR X (compareOp op') r') (hg : Op2 (gx X cl) W g r') (ha : PE X a (tF (gx X cl) W A)) (hb : PE X b (tF (gx X cl) W B)) (hc : PE X c (tF (gx X cl) W C))
    (hm : PySem.lastMarks [op, op'] [b, c] = false := by with_unfolding_all rfl) : PE X (.Compare a [op, op'] [b, c] pos) (tF (gx X cl) W (FCh f g A B C)) := PE.imp (pe_chain ho ho' ha hb hc hm) (fch_of hf hg)
theorem t_chain (ho : OpR X (compareOp op) r) (hf : Op2 (gx X cl) W f r) (ho' : OpR X (compareOp op') r') (hg : Op2 (gx X cl) W g r') (ha : PE X a (tF (gx X cl) W A)) (hb : PE X b (tF (gx X cl) W B)) (hc : PE X c (tF (gx X cl) W C))
    (hm : PySem.lastMarks [op, op'] [b, c] = false := by with_unfolding_all rfl) : PT X (.Compare a [op, op'] [b, c] pos) (tT (gx X cl) W (TB (FCh f g A B C))) := PT.imp (pt_chain ho ho' ha hb hc hm) fun σ H Q h => tb_of (fch_of hf hg σ H) h
end

/-! ### isinstance(x, T), T a built-in type -/
inductive Ty where
  | non | bool | int | str | tup | lst | dct
def Ty.nm : Ty → String
  | .non => "NoneType"
  | .bool => "bool"
  | .int => "int"
  | .str => "str"
  | .tup => "tuple"
  | .lst => "list"
  | .dct => "dict"
def Ty.sub : Ty → Ty → Bool
  | .non, .non => true
  | .bool, .bool => true
  | .bool, .int => true
  | .int, .int => true
  | .str, .str => true
  | .tup, .tup => true
  | .lst, .lst => true
  | .dct, .dct => true
  | _, _ => false
theorem kit_sub (a b : Ty) : kitB a.nm b.nm = some (a.sub b) := by cases a <;> cases b <;> decide +kernel
def tyD (S : Sto) : D → Option Ty
  | .non => some .non
  | .bl _ => some .bool
  | .int _ => some .int
  | .str _ => some .str
  | .tup _ => some .tup
  | .fl _ => some .lst
  | .loc n => match S[n]? with
    | some (.lst _) => some .lst
    | some (.dct _ _) => some .dct
    | _ => none
  | .cls _ => none
  | .exc _ _ => none
theorem tyD_of {G : Ct} {ρ : List Addr} {H : Hp} {S : Sto} {d : D} {v : V} {t : Ty} (rel : RelH G ρ H S) (r : RV G ρ H d v) (h : tyD S d = some t) : TyX G.K H v (.type t.nm) := by
  cases d with
  | non => cases h; cases r; exact .base .non
  | bl b => cases h; cases r; exact .base (.bl b)
  | int b => cases h; cases r; exact .base (.int b)
  | str b => cases h; cases r; exact .base (.str b)
  | tup xs =>
    cases h
    obtain ⟨a, vs, rfl, h1, _⟩ := r
    rcases h1 with (h1 | ⟨o, h1⟩) | ⟨o, its, n, h1, h2, _⟩
    · exact .base (.tup h1)
    · exact .fTuple h1
    · exact .kTuple h1 h2
  | fl xs =>
    cases h
    obtain ⟨a, vs, rfl, h1, _⟩ := r
    rcases h1.1 with (h1 | ⟨o, h1⟩) | ⟨o, its, n, h1, h2, _⟩
    · exact .base (.lst h1)
    · exact .base (.frz h1)
    · exact .kList h1 h2
  | cls c => cases h
  | exc _ _ => cases h
  | loc n =>
    unfold tyD at h
    dsimp only at h
    split at h
    · rename_i xs e
      cases h
      obtain ⟨a, vs, rfl, _, h1, _⟩ := seqL_of rel r e
      exact .base (.lst h1)
    · rename_i lk kvs e
      cases h
      obtain ⟨a, rfl, _, om⟩ := rel.at e r
      cases lk with
      | false =>
        obtain ⟨ks, h1, _⟩ := om
        exact .base (.dK h1)
      | true =>
        obtain ⟨ks, o, h1, _⟩ := om
        exact .fDict h1
    · cases h
/-- isinstance(e, T) -/
def FIs (T : Ty) (A : Sl → Sto → R D) : Sl → Sto → R D := fun σ S => (A σ S).to fun a S1 => match tyD S1 a with
  | some t => .ok (.bl (t.sub T)) S1
  | none => match a with
    | .loc n => match S1[n]? with
      | some (.ins _ _) => .ok (.bl false) S1
      | _ => .bad
    | _ => .bad
/-- what is known of an own class's instances -/
structure ClsK (K : PySem.W.Frag) (C : Addr) : Prop where
  cl : Cls K C
  ha : PySem.W.findIn K (.ref C) "__class__" = some (some (.builtin "object.__class__"))
  hn : PySem.W.specialIn K (.builtin "object.__class__") "__get__" = some (some (.builtin "getset_descriptor.__get__"))
  htk : PySem.W.takesIn K (.builtin "object.__class__") = some true
  hm : PySem.W.mroIn K C (.type "object") = some true
theorem f_is {X : Cx} {cl : Cl} {W : WX} {T : Ty} {x : Str} {e : Expr} {A : Sl → Sto → R D} {p p2 pos : Pos} (hC : ∀ c, ClsK X.K (cl.cl c)) (hk : ∀ c, PySem.W.kitOne X.K (.ref (cl.cl c)) (.type T.nm) = some false) (hm1 : X.mg "isinstance" = none) (hm : X.mg x = none)
    (ha : PE X e (tF (gx X cl) W A)) (hv : bootBuiltins x = some (.type T.nm) := by decide +kernel) (hg1 : Gl X "isinstance" := by rfl) (hg : Gl X x := by rfl) (hn : x ≠ "__name__" := by decide) (hdb : (x == ("__debug__" : Str)) = false := by decide)
    (he : starEach (e :: [.Name x p2]) X.env = (false, eval e X.env) :: starEach [.Name x p2] X.env := by rfl) (hpl : (backTo pos (starEach [.Name x p2] X.env)).any (·.1) = false := by rfl)
    (he2 : starEach ([.Name x p2]) X.env = (false, eval (.Name x p2) X.env) :: starEach [] X.env := by rfl) : PE X (.Call (.Name "isinstance" p) [e, .Name x p2] [] pos) (tF (gx X cl) W (FIs T A)) := by
  refine PE.imp (pe_callB call_isi hg1 hm1 (by decide +kernel) (pa_cons ha (pa_cons (pe_bltn (v := .ty T.nm) hg hm hv rfl hn hdb) pa_nil he2) he) (by decide) (by decide) he hpl) fun σ H Q ⟨ρ, σd, S, rel, o⟩ => ?_
  refine tG_to rel o fun a S1 v H1 ρ1 e1 rel1 t1 o1 => ?_
  cases ht : tyD S1 a with
  | some t =>
    rw [ht] at o1
    exact ⟨v, .ty T.nm, .type t.nm, .type T.nm, t.sub T, rfl, .ty T.nm, tyD_of rel1.hp t1 ht, kit_ty (kit_sub t T), Out.ret o1 rel1.hp rfl⟩
  | none =>
    rw [ht] at o1
    cases a <;> first | exact o1.elim | skip
    rename_i n
    dsimp only at o1
    split at o1
    · rename_i c fs hs
      obtain ⟨b, rfl, _, dx, vs, h1, _⟩ := rel1.hp.at hs t1
      exact ⟨_, .ty T.nm, _, .type T.nm, false, rfl, .ty T.nm, .base (.ins h1 (hC c).cl (hC c).ha (hC c).hn (hC c).htk (hC c).hm), hk c, Out.ret o1 rel1.hp rfl⟩
    · exact o1.elim
end Mi
set_option Elab.async false
set_option autoImplicit false
set_option linter.all false
set_option maxRecDepth 100000
set_option maxHeartbeats 4000000
namespace Mi
open PySem L2

/-! ### what is walked -/
inductive Src where
  | sq (d : D) | rng (lo : Int) (n : Nat) | keys (n : Nat) | items (n : Nat) | enum (d : D) | keysN (n : Nat) | itemsN (n : Nat)
/-- the pairs of a locked dict of tuple keys -/
def lkN (S : Sto) (n : Nat) : Option (List (NestedKey × D × D)) := match S[n]? with
  | some (.dtn true kvs) => some kvs
  | some (.dct true []) => some []
  | _ => none
def nextI (S : Sto) (i : Nat) : Src → Option (Option D)
  | .keysN n => match lkN S n with
    | some kvs => some (kvs[i]?.map fun p => p.2.1)
    | none => none
  | .itemsN n => match lkN S n with
    | some kvs => some (kvs[i]?.map fun p => .tup [p.2.1, p.2.2])
    | none => none
  | .sq d => match seqD S d with
    | some xs => some xs[i]?
    | none => none
  | .rng lo n => some (if i < n then some (.int (lo + i)) else none)
  | .keys n => match S[n]? with
    | some (.dct true kvs) => some (kvs[i]?.map fun p => kD p.1)
    | _ => none
  | .items n => match S[n]? with
    | some (.dct true kvs) => some (kvs[i]?.map fun p => .tup [kD p.1, p.2])
    | _ => none
  | .enum d => match seqD S d with
    | some xs => some (xs[i]?.map fun x => .tup [.int i, x])
    | none => none
theorem next_sq {S : Sto} {i : Nat} {d : D} {xs : List D} (h : seqD S d = some xs) : nextI S i (.sq d) = some xs[i]? := by
  show (match seqD S d with
    | some xs => some xs[i]?
    | none => none) = _
  rw [h]
theorem next_sq0 {S : Sto} {i : Nat} {d : D} (h : seqD S d = none) : nextI S i (.sq d) = none := by
  show (match seqD S d with
    | some xs => some xs[i]?
    | none => none) = _
  rw [h]
theorem next_enum {S : Sto} {i : Nat} {d : D} {xs : List D} (h : seqD S d = some xs) : nextI S i (.enum d) = some (xs[i]?.map fun x => .tup [.int i, x]) := by
  show (match seqD S d with
    | some xs => some (xs[i]?.map fun x => D.tup [.int i, x])
    | none => none) = _
  rw [h]
theorem next_enum0 {S : Sto} {i : Nat} {d : D} (h : seqD S d = none) : nextI S i (.enum d) = none := by
  show (match seqD S d with
    | some xs => some (xs[i]?.map fun x => D.tup [.int i, x])
    | none => none) = _
  rw [h]
theorem rng_stop {S : Sto} {i n : Nat} {lo : Int} (h : nextI S i (.rng lo n) = some none) : n ≤ i := by
  have h' : some (if i < n then some (D.int (lo + i)) else none) = some none := h
  by_cases hi : i < n
  · rw [if_pos hi] at h'; cases h'
  · exact Nat.le_of_not_lt hi
theorem rng_go {S : Sto} {i n : Nat} {lo : Int} {d : D} (h : nextI S i (.rng lo n) = some (some d)) : i < n ∧ d = .int (lo + i) := by
  have h' : some (if i < n then some (D.int (lo + i)) else none) = some (some d) := h
  by_cases hi : i < n
  · rw [if_pos hi] at h'; cases h'; exact ⟨hi, rfl⟩
  · rw [if_neg hi] at h'; cases h'
structure ItOk (G : Ct) (ρ0 : List Addr) (H0 : Hp) (src : Src) (J : It) : Prop where
  stop : ∀ ρ H S i, Ext G ρ0 ρ H0 H → RelH G ρ H S → nextI S i src = some none → J.stop i H
  go : ∀ ρ H S i d, Ext G ρ0 ρ H0 H → RelH G ρ H S → nextI S i src = some (some d) → J.go i H ∧ ∀ x H', J.yld i H x H' → Ext G ρ ρ H H' ∧ RelH G ρ H' S ∧ RV G ρ H' d x
theorem ItOk.ext {G : Ct} {ρ ρ' : List Addr} {H H' : Hp} {src : Src} {J : It} (e : Ext G ρ ρ' H H') (h : ItOk G ρ H src J) : ItOk G ρ' H' src J :=
  ⟨fun ρ2 H2 S i e2 r n => h.stop ρ2 H2 S i (e.trans e2) r n, fun ρ2 H2 S i d e2 r n => h.go ρ2 H2 S i d (e.trans e2) r n⟩
theorem sqt_fun {K : PySem.W.Frag} {H : Hp} {a : Addr} {xs ys : List V} (h : ∀ zs, SqL K H a zs → True) : True := trivial
theorem kD_rv {G : Ct} {ρ : List Addr} {H : Hp} : ∀ k : Key, RV G ρ H (kD k) (kV k)
  | .inl _ => rfl
  | .inr _ => rfl
theorem RKs.get {G : Ct} {ρ : List Addr} {H : Hp} : ∀ {ps : List (Key × D)} {ks : List (Key × V)} {i : Nat} {p : Key × D}, RKs G ρ H ps ks → ps[i]? = some p → ∃ v, ks[i]? = some (p.1, v) ∧ RV G ρ H p.2 v
  | [], _, _, _, _, e => by simp at e
  | q :: ps, _, 0, _, h, e => by
    obtain ⟨v, r, rfl, h1, _⟩ := h
    simp at e; subst e
    exact ⟨v, rfl, h1⟩
  | q :: ps, _, i + 1, _, h, e => by
    obtain ⟨v, r, rfl, _, h2⟩ := h
    obtain ⟨w, e1, h3⟩ := RKs.get (i := i) h2 (by simpa using e)
    exact ⟨w, by simpa using e1, h3⟩
section
variable {X : Cx} {cl : Cl} {W : WX}
abbrev tI (G : Ct) (W : WX) (F : Sl → Sto → R Src) : TI := tG G (fun ρ H s J => ItOk G ρ H s J) W F
theorem PI.imp {X : Cx} {tg e : Expr} {t t' : TI} (h : PI X tg e t) (i : ∀ σ H Q, t' σ H Q → t σ H Q) : PI X tg e t' := ⟨fun pins s σ H Q I q => h.run pins s σ H Q I (i σ H Q q)⟩
def ISq (F : Sl → Sto → R D) : Sl → Sto → R Src := fun σ S => (F σ S).to fun d S1 => match d with
  | .fl xs => .ok (.sq (.fl xs)) S1
  | .loc n => match S1[n]? with
    | some (.lst _) => .ok (.sq (.loc n)) S1
    | _ => .bad
  | _ => .bad
def ITu (F : Sl → Sto → R D) : Sl → Sto → R Src := fun σ S => (F σ S).to fun d S1 => match d with
  | .tup xs => .ok (.sq (.tup xs)) S1
  | _ => .bad
/-- a list has one reading -/
def LstFun (K : PySem.W.Frag) (H : Hp) (a : Addr) (xs : List V) : Prop := ∀ ys, SqL K H a ys → ys = xs
def TupFun (K : PySem.W.Frag) (H : Hp) (a : Addr) (xs : List V) : Prop := ∀ ys, SqT K H a ys → ys = xs
theorem i_rng1 {tg a : Expr} {A : Sl → Sto → R (List D)} {p pos : Pos} (hm : X.mg "range" = none) (ha : PA X [a] (tA (gx X cl) W A)) (hg : Gl X "range" := by rfl) (hs : starEach [a] X.env = [(false, eval a X.env)] := by rfl) :
    PI X tg (.Call (.Name "range" p) [a] [] pos) (tI (gx X cl) W (fun σ S => (A σ S).to fun ds S1 => match ds with
      | [.int j] => if j.natAbs < 2 ^ 61 then .ok (.rng 0 j.toNat) S1 else .bad
      | _ => .bad)) := by
  refine PI.imp (pi_range1 hg hm ha hs) fun σ H Q ⟨ρ, σd, S, rel, o⟩ => ?_
  refine tG_to rel o fun ds S1 vs H1 ρ1 e1 rel1 t1 o1 => ?_
  match ds, t1, o1 with
  | [], _, o1 => exact o1.elim
  | [d], t1, o1 =>
    obtain ⟨v, rfl, rv⟩ := rvs1 t1
    cases d <;> first | exact o1.elim | skip
    rename_i j
    dsimp only at o1
    by_cases h : j.natAbs < 2 ^ 61
    · rw [if_pos h] at o1
      cases rv
      refine ⟨j, rfl, by omega, by omega, Out.ret o1 rel1.hp ⟨fun ρ H S i e r n => ?_, fun ρ H S i d e r n => ?_⟩⟩
      · exact rng_stop n
      · obtain ⟨hi, rfl⟩ := rng_go n
        exact ⟨hi, fun x H' y => by
          obtain ⟨rfl, rfl⟩ := y
          exact ⟨Ext.refl, r, rfl⟩⟩
    · rw [if_neg h] at o1; exact o1.elim
  | d :: _ :: _, _, o1 => cases d <;> exact o1.elim
theorem i_rng2 {tg a b : Expr} {A : Sl → Sto → R (List D)} {p pos : Pos} (hm : X.mg "range" = none) (ha : PA X [a, b] (tA (gx X cl) W A)) (hg : Gl X "range" := by rfl) (hs : starEach [a, b] X.env = [(false, eval a X.env), (false, eval b X.env)] := by rfl) (hs2 : starEach [b] X.env = [(false, eval b X.env)] := by rfl) :
    PI X tg (.Call (.Name "range" p) [a, b] [] pos) (tI (gx X cl) W (fun σ S => (A σ S).to fun ds S1 => match ds with
      | [.int i, .int j] => if i.natAbs < 2 ^ 61 ∧ j.natAbs < 2 ^ 61 then .ok (.rng i (j - i).toNat) S1 else .bad
      | _ => .bad)) := by
  refine PI.imp (pi_range2 hg hm ha hs hs2) fun σ H Q ⟨ρ, σd, S, rel, o⟩ => ?_
  refine tG_to rel o fun ds S1 vs H1 ρ1 e1 rel1 t1 o1 => ?_
  match ds, t1, o1 with
  | [], _, o1 => exact o1.elim
  | [d], _, o1 => cases d <;> exact o1.elim
  | [d, d'], t1, o1 =>
    obtain ⟨v, v', rfl, rv, rv'⟩ := rvs2 t1
    cases d <;> cases d' <;> first | exact o1.elim | skip
    rename_i i0 j
    dsimp only at o1
    by_cases h : i0.natAbs < 2 ^ 61 ∧ j.natAbs < 2 ^ 61
    · rw [if_pos h] at o1
      cases rv; cases rv'
      refine ⟨i0, j, rfl, ⟨by omega, by omega, by omega, by omega⟩, Out.ret o1 rel1.hp ⟨fun ρ H S i e r n => ?_, fun ρ H S i d e r n => ?_⟩⟩
      · exact rng_stop n
      · obtain ⟨hi, rfl⟩ := rng_go n
        exact ⟨hi, fun x H' y => by
          obtain ⟨rfl, rfl⟩ := y
          exact ⟨Ext.refl, r, rfl⟩⟩
    · rw [if_neg h] at o1; exact o1.elim
  | d :: d' :: _ :: _, _, o1 => cases d <;> cases d' <;> exact o1.elim
/-- a list of the store: for x in xs -/
theorem itl_ok {G : Ct} {ρ : List Addr} {H : Hp} {n : Nat} {a : Addr} (ha : ρ[n]? = some a) : ItOk G ρ H (.sq (.loc n)) (Itl G.K a) := by
  have key : ∀ {ρ' H' S' xs}, Ext G ρ ρ' H H' → RelH G ρ' H' S' → seqD S' (.loc n) = some xs → ∃ vs, H' a = some (.lst vs) ∧ RVs G ρ' H' xs vs := fun {ρ' H' S' xs} e r h => by
    unfold seqD at h
    dsimp only at h
    split at h
    · rename_i ys hs
      cases h
      obtain ⟨vs, h1, h2⟩ := r.obj n a _ (e.get ha) hs
      exact ⟨vs, h1, h2⟩
    · cases h
  refine ⟨fun ρ' H' S' i e r h => ?_, fun ρ' H' S' i d e r h => ?_⟩
  · cases hs : seqD S' (.loc n) with
    | none => rw [next_sq0 hs] at h; cases h
    | some xs =>
      rw [next_sq hs] at h
      obtain ⟨vs, h1, h2⟩ := key e r hs
      have hi : xs[i]? = none := Option.some.inj h
      exact ⟨vs, SqL.of h1, by rw [← h2.length]; exact List.getElem?_eq_none_iff.mp hi⟩
  · cases hs : seqD S' (.loc n) with
    | none => rw [next_sq0 hs] at h; cases h
    | some xs =>
      rw [next_sq hs] at h
      obtain ⟨vs, h1, h2⟩ := key e r hs
      have hi : xs[i]? = some d := Option.some.inj h
      obtain ⟨v, hv, rv⟩ := h2.get hi
      exact ⟨⟨vs, v, SqL.of h1, hv⟩, fun x H2 ⟨eH, hy⟩ => by
        subst eH
        have := hy vs (SqL.of h1)
        rw [hv] at this; cases this
        exact ⟨Ext.refl, r, rv⟩⟩
theorem i_list {tg l : Expr} {F : Sl → Sto → R D} (hl : PE X l (tF (gx X cl) W F)) : PI X tg l (tI (gx X cl) W (fun σ S => (F σ S).to fun d S1 => match d with
      | .loc n => match S1[n]? with
        | some (.lst _) => .ok (.sq (.loc n)) S1
        | _ => .bad
      | _ => .bad)) := by
  refine PI.imp (pi_list hl) fun σ H Q ⟨ρ, σd, S, rel, o⟩ => ?_
  refine tG_to rel o fun d S1 v H1 ρ1 e1 rel1 t1 o1 => ?_
  cases d <;> first | exact o1.elim | skip
  rename_i n
  dsimp only at o1
  split at o1
  · rename_i xs hs
    obtain ⟨a, vs, rfl, ea, h1, h2⟩ := seqL_of rel1.hp t1 hs
    exact ⟨a, rfl, ⟨vs, SqL.of h1⟩, Out.ret o1 rel1.hp (itl_ok ea)⟩
  · exact o1.elim
/-- a tuple: its reading is one where it is read for the walk -/
theorem itt_ok {G : Ct} {ρ : List Addr} {H : Hp} {xs : List D} {a : Addr} {vs : List V} (h1 : SqT G.K H a vs) (h2 : RVs G ρ H xs vs) (hf : ∀ ρ' H', Ext G ρ ρ' H H' → TupFun G.K H' a vs) : ItOk G ρ H (.sq (.tup xs)) (Itt G.K a) := by
  refine ⟨fun ρ' H' S' i e r h => ?_, fun ρ' H' S' i d e r h => ?_⟩
  · have hi : xs[i]? = none := Option.some.inj h
    exact ⟨vs, e.tup _ _ h1, by rw [← h2.length]; exact List.getElem?_eq_none_iff.mp hi⟩
  · have hi : xs[i]? = some d := Option.some.inj h
    obtain ⟨v, hv, rv⟩ := (h2.ext e).get hi
    exact ⟨⟨vs, v, e.tup _ _ h1, hv⟩, fun x H2 ⟨eH, hy⟩ => by
      subst eH
      have := hy vs (e.tup _ _ h1)
      rw [hv] at this; cases this
      exact ⟨Ext.refl, r, rv⟩⟩
theorem i_tup {tg l : Expr} {F : Sl → Sto → R D} (hl : PE X l (tF (gx X cl) W F)) : PI X tg l (tI (gx X cl) W (ITu F)) := by
  refine PI.imp (pi_tup hl) fun σ H Q ⟨ρ, σd, S, rel, o⟩ => ?_
  refine tG_to rel o fun d S1 v H1 ρ1 e1 rel1 t1 o1 => ?_
  cases d <;> first | exact o1.elim | skip
  rename_i xs
  obtain ⟨a, vs, rfl, h1, h2⟩ := t1
  refine ⟨a, rfl, ⟨vs, h1⟩, Out.ret o1 rel1.hp ⟨fun ρ' H' S' i e r h => ?_, fun ρ' H' S' i d e r h => ?_⟩⟩
  · have hi : xs[i]? = none := Option.some.inj h
    exact ⟨vs, e.tup _ _ h1, by rw [← h2.length]; exact List.getElem?_eq_none_iff.mp hi⟩
  · have hi : xs[i]? = some d := Option.some.inj h
    obtain ⟨v, hv, rv⟩ := (h2.ext e).get hi
    exact ⟨⟨vs, v, e.tup _ _ h1, hv⟩, fun x H2 ⟨eH, hy⟩ => by
      subst eH
      have := hy vs (e.tup _ _ h1)
      rw [hv] at this; cases this
      exact ⟨Ext.refl, r, rv⟩⟩
theorem i_enum {tpos p pos : Pos} {elts : List Expr} {kk : Nat} {e : Expr} {A : Sl → Sto → R (List D)} (hm : X.mg "enumerate" = none) (ha : PA X [e] (tA (gx X cl) W A)) (hg : Gl X "enumerate" := by rfl) (hs : starEach [e] X.env = [(false, eval e X.env)] := by rfl) :
    PI X (.Tuple elts kk tpos) (.Call (.Name "enumerate" p) [e] [] pos) (tI (gx X cl) W (fun σ S => (A σ S).to fun ds S1 => match ds with
      | [.loc n] => match S1[n]? with
        | some (.lst _) => .ok (.enum (.loc n)) S1
        | _ => .bad
      | _ => .bad)) := by
  refine PI.imp (pi_enum hg hm ha hs) fun σ H Q ⟨ρ, σd, S, rel, o⟩ => ?_
  refine tG_to rel o fun ds S1 vs H1 ρ1 e1 rel1 t1 o1 => ?_
  match ds, t1, o1 with
  | [], _, o1 => exact o1.elim
  | [d], t1, o1 =>
    obtain ⟨v, rfl, rv⟩ := rvs1 t1
    cases d <;> first | exact o1.elim | skip
    rename_i n
    dsimp only at o1
    split at o1
    · rename_i xs hs
      obtain ⟨a, vs, rfl, ea, h1, h2⟩ := seqL_of rel1.hp rv hs
      refine ⟨a, vs, rfl, SqL.of h1, Out.ret o1 rel1.hp ?_⟩
      have B := itl_ok (G := gx X cl) (H := H1) ea
      refine ⟨fun ρ' H' S' i e r h => ?_, fun ρ' H' S' i d e r h => ?_⟩
      · cases hs : seqD S' (.loc n) with
        | none => rw [next_enum0 hs] at h; cases h
        | some xs =>
          rw [next_enum hs] at h
          refine B.stop ρ' H' S' i e r ?_
          rw [next_sq hs]
          cases hx : xs[i]? with
          | none => rfl
          | some x => rw [hx] at h; cases h
      · cases hs : seqD S' (.loc n) with
        | none => rw [next_enum0 hs] at h; cases h
        | some xs =>
          rw [next_enum hs] at h
          cases hx : xs[i]? with
          | none => rw [hx] at h; cases h
          | some x =>
            rw [hx] at h
            cases h
            obtain ⟨g1, g2⟩ := B.go ρ' H' S' i x e r (by rw [next_sq hs, hx])
            refine ⟨g1, fun y H2 ⟨T, z, ey, hT, eH, hy⟩ => ?_⟩
            subst ey; subst eH
            obtain ⟨_, _, rz⟩ := g2 z H' ⟨rfl, hy⟩
            have e2 : Ext (gx X cl) ρ' ρ' H' (upd H' T (.tup [.int i, z])) := Ext.new hT
            exact ⟨e2, r.side hT, T, _, rfl, SqT.of upd_same, _, _, rfl, rfl, _, _, rfl, rz.ext e2, rfl⟩
    · exact o1.elim
  | d :: _ :: _, _, o1 => cases d <;> exact o1.elim

/-! ### for -/
def loopS (src : Src) (g : TgF) (B : Sl → Sto → RS) : Nat → Nat → Sl → Sto → RS
  | 0, _, _, _ => .bad
  | k + 1, i, σ, S => match nextI S i src with
    | none => .bad
    | some none => .ok .nx σ S
    | some (some d) => match g d σ S with
      | .ok _ σ1 S1 => match B σ1 S1 with
        | .ok .nx σ2 S2 => loopS src g B k (i + 1) σ2 S2
        | .ok .ct σ2 S2 => loopS src g B k (i + 1) σ2 S2
        | .ok .bk σ2 S2 => .ok .nx σ2 S2
        | .ok (.rt d) σ2 S2 => .ok (.rt d) σ2 S2
        | .ex c fs σ2 S2 => .ex c fs σ2 S2
        | .bad => .bad
      | .ex c fs σ2 S2 => .ex c fs σ2 S2
      | .bad => .bad
def SFor (fuel : Nat) (I : Sl → Sto → R Src) (g : TgF) (B : Sl → Sto → RS) : Sl → Sto → RS := fun σ S => toS σ (I σ S) fun src S1 => loopS src g B fuel 0 σ S1
theorem s_for {fuel : Nat} {tg iter : Expr} {body : List Stmt} {I : Sl → Sto → R Src} {g : TgF} {B : Sl → Sto → RS} {pos : Pos} (hp : PassesOwn (model X.prog X.w) X.A X.env X.xe) (hc : X.calm = true) (hi : PI X tg iter (tI (gx X cl) W I)) (hg : PG X tg (tTg (gx X cl) W g)) (hx : NxT g) (hb : PSs X body (tS (gx X cl) W B))
    (hs : ∀ x, foldedSetIterable iter X.env x = pure x := by intro _; rfl) : PS X (.For tg iter body [] pos) (tS (gx X cl) W (SFor fuel I g B)) := by
  refine PS.imp (ps_for hp hc hi hg hb hs) fun D σ H ⟨ρ, σd, S, rel, o⟩ => ?_
  refine tG_toS rel o fun src S1 J H1 ρ1 e1 rel1 t1 o1 => ?_
  refine ⟨fun i m σ H => ∃ ρ σd S, Ext (gx X cl) ρ1 ρ H1 H ∧ Rel (gx X cl) ρ σ σd H S ∧ OutS (gx X cl) W ρ H (loopS src g B m i σd S) D, ⟨fuel, ρ1, σd, S1, Ext.refl, rel1, o1⟩, ?_⟩
  rintro i m σ2 H2 ⟨ρ2, σd2, S2, e2, rel2, o2⟩
  cases m with
  | zero => exact o2.elim
  | succ m =>
    unfold loopS at o2
    cases hn : nextI S2 i src with
    | none => rw [hn] at o2; exact o2.elim
    | some od =>
      rw [hn] at o2
      cases od with
      | none => exact .inl ⟨t1.stop ρ2 H2 S2 i e2 rel2.hp hn, OutS.now o2 rel2⟩
      | some d =>
        dsimp only at o2
        obtain ⟨g1, g2⟩ := t1.go ρ2 H2 S2 i d e2 rel2.hp hn
        refine .inr ⟨g1, fun σ H => ∃ ρ σd S, Ext (gx X cl) ρ1 ρ H1 H ∧ Rel (gx X cl) ρ σ σd H S ∧ OutS (gx X cl) W ρ H (loopS src g B m (i + 1) σd S) D, fun σ' H' h => ⟨m, Nat.lt_succ_self m, h⟩, fun x H3 y => ?_⟩
        obtain ⟨e3, r3, rv⟩ := g2 x H3 y
        have o3 := OutS.mono e3 o2
        refine ⟨ρ2, σd2, S2, d, rel2.step e3 r3, rv, ?_⟩
        cases hgd : g d σd2 S2 with
        | ok f σ4 S4 =>
          rw [hgd] at o3
          have := hx _ _ _ _ _ _ hgd
          subst this
          dsimp only at o3
          intro σ' H' ρ' e4 rel4
          refine ⟨ρ', σ4, S4, rel4, ?_⟩
          have o4 := OutS.mono e4 o3
          have eA := e2.trans (e3.trans e4)
          cases hB : B σ4 S4 with
          | ok f5 σ5 S5 =>
            rw [hB] at o4
            cases f5 with
            | nx => exact fun σ6 H6 ρ6 e6 rel6 => ⟨ρ6, σ5, S5, eA.trans e6, rel6, OutS.mono e6 o4⟩
            | ct => exact fun σ6 H6 ρ6 e6 rel6 => ⟨ρ6, σ5, S5, eA.trans e6, rel6, OutS.mono e6 o4⟩
            | bk => exact o4
            | rt d => exact o4
          | ex c fs σ5 S5 => rw [hB] at o4; exact o4
          | bad => rw [hB] at o4; exact o4
        | ex c fs σ4 S4 => rw [hgd] at o3; exact o3
        | bad => rw [hgd] at o3; exact o3
end
end Mi
set_option Elab.async false
set_option autoImplicit false
set_option linter.all false
set_option maxRecDepth 100000
set_option maxHeartbeats 4000000
namespace Mi
open PySem L2

/-! ### dicts by data -/
def getD (kvs : List (Key × D)) (k : Key) : Option D := match kvs with
  | [] => none
  | p :: r => if p.1 = k then some p.2 else getD r k
def putD (kvs : List (Key × D)) (k : Key) (d : D) : List (Key × D) := match kvs with
  | [] => [(k, d)]
  | p :: r => if p.1 = k then (p.1, d) :: r else p :: putD r k d
def delD (kvs : List (Key × D)) (k : Key) : List (Key × D) := match kvs with
  | [] => []
  | p :: r => if p.1 = k then delD r k else p :: delD r k
/-- no key twice -/
def ndK : List (Key × D) → Bool
  | [] => true
  | p :: r => (r.all fun q => decide (q.1 ≠ p.1)) && ndK r
section
variable {G : Ct} {ρ : List Addr} {H : Hp}
theorem getD_rv : ∀ {ps : List (Key × D)} {ks : List (Key × V)} {k : Key}, RKs G ρ H ps ks → (getD ps k = none → valV ks k = none) ∧ ∀ d, getD ps k = some d → ∃ v, valV ks k = some v ∧ RV G ρ H d v
  | [], _, k, h => by cases h; exact ⟨(fun _ => rfl), (fun d q => by cases q)⟩
  | p :: ps, _, k, h => by
    obtain ⟨v, r, rfl, h1, h2⟩ := h
    have ih := getD_rv (k := k) h2
    unfold getD
    by_cases e : p.1 = k
    · rw [if_pos e]
      exact ⟨(fun q => by cases q), (fun d q => by cases q; exact ⟨v, valV_pos e, h1⟩)⟩
    · rw [if_neg e, valV_neg e]
      exact ih
theorem getD_some {ps : List (Key × D)} {ks : List (Key × V)} {k : Key} {d : D} (r : RKs G ρ H ps ks) (h : getD ps k = some d) : ∃ v, valV ks k = some v ∧ RV G ρ H d v := (getD_rv r).2 d h
theorem getD_none {ps : List (Key × D)} {ks : List (Key × V)} {k : Key} (r : RKs G ρ H ps ks) (h : getD ps k = none) : valV ks k = none := (getD_rv r).1 h
theorem RKs.append {ps qs : List (Key × D)} {ks ls : List (Key × V)} (a : RKs G ρ H ps ks) (b : RKs G ρ H qs ls) : RKs G ρ H (ps ++ qs) (ks ++ ls) := by
  induction ps generalizing ks with
  | nil => cases a; exact b
  | cons p ps ih =>
    obtain ⟨v, r, rfl, h1, h2⟩ := a
    exact ⟨v, r ++ ls, rfl, h1, ih h2⟩
/-- the keys of both -/
theorem RKs.keys : ∀ {ps : List (Key × D)} {ks : List (Key × V)}, RKs G ρ H ps ks → ks.map (·.1) = ps.map (·.1)
  | [], _, h => by cases h; rfl
  | p :: ps, _, h => by
    obtain ⟨v, r, rfl, _, h2⟩ := h
    rw [List.map_cons, List.map_cons, RKs.keys h2]
theorem any_key {α : Type} {ks : List (Key × α)} {k : Key} : (ks.any fun kv => decide (kv.1 = k)) = true ↔ k ∈ ks.map (fun q : Key × α => q.1) := by
  rw [List.any_eq_true]
  constructor
  · rintro ⟨p, hp, e⟩
    exact List.mem_map.mpr ⟨p, hp, by simpa using e⟩
  · intro h
    obtain ⟨p, hp, e⟩ := List.mem_map.mp h
    exact ⟨p, hp, by simpa using e⟩
/-- to write where the key is: as it were map -/
theorem put_map {ks : List (Key × V)} {k : Key} {v : V} (h : k ∉ ks.map (·.1)) : ks.map (fun kv => if kv.1 = k then (kv.1, v) else kv) = ks := by
  induction ks with
  | nil => rfl
  | cons p r ih =>
    rw [List.map_cons, List.mem_cons, not_or] at h
    rw [List.map_cons, if_neg (fun z => h.1 z.symm), ih h.2]
theorem putD_rv {k : Key} {d : D} {v : V} (hd : RV G ρ H d v) : ∀ {ps : List (Key × D)} {ks : List (Key × V)}, RKs G ρ H ps ks → (ps.map (·.1)).Nodup → RKs G ρ H (putD ps k d) (putK ks k v)
  | [], _, h, _ => by cases h; exact ⟨v, [], rfl, hd, rfl⟩
  | p :: ps, _, h, nd => by
    obtain ⟨w, r, rfl, h1, h2⟩ := h
    rw [List.map_cons, List.nodup_cons] at nd
    have ih := putD_rv (k := k) hd h2 nd.2
    unfold putD
    by_cases e : p.1 = k
    · rw [if_pos e]
      have nk : k ∉ r.map (·.1) := by rw [RKs.keys h2]; rw [← e]; exact nd.1
      have : putK ((p.1, w) :: r) k v = (p.1, v) :: r := by
        unfold putK
        rw [if_pos (any_key.mpr (by simp [e]))]
        rw [List.map_cons, if_pos e, put_map nk]
      rw [this]
      exact ⟨v, r, rfl, hd, h2⟩
    · rw [if_neg e]
      have : putK ((p.1, w) :: r) k v = (p.1, w) :: putK r k v := by
        unfold putK
        have hne : ¬ k = p.1 := fun z => e z.symm
        by_cases hm : k ∈ r.map (fun q : Key × V => q.1)
        · rw [if_pos (any_key.mpr (List.mem_cons_of_mem _ hm)), if_pos (any_key.mpr hm), List.map_cons, if_neg e]
        · rw [if_neg (fun z => hm ?_), if_neg (fun z => hm (any_key.mp z))]
          · rfl
          · have z2 := any_key.mp z
            rw [List.map_cons, List.mem_cons] at z2
            exact z2.resolve_left hne
      rw [this]
      exact ⟨w, _, rfl, h1, ih⟩
theorem delD_rv {k : Key} : ∀ {ps : List (Key × D)} {ks : List (Key × V)}, RKs G ρ H ps ks → RKs G ρ H (delD ps k) (dropK ks k)
  | [], _, h => by cases h; rfl
  | p :: ps, _, h => by
    obtain ⟨w, r, rfl, h1, h2⟩ := h
    have ih := delD_rv (k := k) h2
    unfold delD
    by_cases e : p.1 = k
    · rw [if_pos e]
      have : dropK ((p.1, w) :: r) k = dropK r k := by simp [dropK, e]
      rw [this]
      exact ih
    · rw [if_neg e]
      have : dropK ((p.1, w) :: r) k = (p.1, w) :: dropK r k := by simp [dropK, e]
      rw [this]
      exact ⟨w, _, rfl, h1, ih⟩
theorem ndK_of : ∀ {ps : List (Key × D)}, ndK ps = true → (ps.map (·.1)).Nodup
  | [], _ => List.nodup_nil
  | p :: ps, h => by
    unfold ndK at h
    rw [Bool.and_eq_true] at h
    rw [List.map_cons, List.nodup_cons]
    refine ⟨fun z => ?_, ndK_of h.2⟩
    obtain ⟨q, hq, e⟩ := List.mem_map.mp z
    have := (List.all_eq_true.mp h.1) q hq
    simp at this
    exact this e
theorem keyD_rv {d : D} {k : Key} {v : V} (h : keyD d = some k) (r : RV G ρ H d v) : v = kV k := by
  cases d <;> cases h <;> cases r <;> rfl
end
/-- a dict of the store -/
def dctAt (S : Sto) : D → Option (Bool × List (Key × D))
  | .loc n => match S[n]? with
    | some (.dct lk kvs) => some (lk, kvs)
    | _ => none
  | _ => none
section
variable {G : Ct} {ρ : List Addr} {H : Hp} {S : Sto}
theorem dct_of (r : RelH G ρ H S) {d : D} {v : V} {lk : Bool} {kvs : List (Key × D)} (hv : RV G ρ H d v) (h : dctAt S d = some (lk, kvs)) : ∃ a ks n, d = .loc n ∧ S[n]? = some (.dct lk kvs) ∧ ρ[n]? = some a ∧ v = .ref a ∧ Rd H a (.dK ks) ∧ RKs G ρ H kvs ks ∧ (lk = false → H a = some (.dK ks)) := by
  cases d <;> first | cases h | skip
  rename_i n
  unfold dctAt at h
  dsimp only at h
  split at h
  · rename_i lk' kvs' e
    cases h
    obtain ⟨a, ev, ha, om⟩ := r.at e hv
    cases lk with
    | false =>
      obtain ⟨ks, h1, h2⟩ := om
      exact ⟨a, ks, n, rfl, e, ha, ev, .inl h1, h2, fun _ => h1⟩
    | true =>
      obtain ⟨ks, o, h1, h2⟩ := om
      exact ⟨a, ks, n, rfl, e, ha, ev, .inr ⟨o, h1⟩, h2, fun z => by cases z⟩
  · cases h
end
def opGet : D2 := fun a b S => match dctAt S a, keyD b with
  | some (_, kvs), some k => match getD kvs k with
    | some d => .ok d S
    | none => .bad
  | _, _ => .bad
def FDGet (A B : Sl → Sto → R D) : Sl → Sto → R D := F2 opGet A B
section
variable {X : Cx} {cl : Cl} {W : WX} {o i e f : Expr} {pos apos cpos : Pos} {A B C : Sl → Sto → R D}
theorem f_dget (hu : X.A.units + 1 < cLine) (ho : PE X o (tF (gx X cl) W A)) (hi : PE X i (tF (gx X cl) W B)) (hs : NoSl i := by exact fun _ _ => rfl) : PE X (.Subscript o i pos) (tF (gx X cl) W (FDGet A B)) := by
  refine PE.imp (pe_dget hu ho hi hs) fun σ H Q ⟨ρ, σd, S, rel, o⟩ => ?_
  refine tG_to rel o fun a S1 x H1 ρ1 e1 rel1 t1 o1 => tG_to rel1 o1 fun b S2 y H2 ρ2 e2 rel2 t2 o2 => ?_
  unfold opGet at o2
  cases h1 : dctAt S2 a with
  | none => rw [h1] at o2; exact o2.elim
  | some p =>
    obtain ⟨lk, kvs⟩ := p
    cases h2 : keyD b with
    | none => rw [h1, h2] at o2; exact o2.elim
    | some k =>
      rw [h1, h2] at o2
      dsimp only at o2
      cases h3 : getD kvs k with
      | none => rw [h3] at o2; exact o2.elim
      | some d =>
        rw [h3] at o2
        obtain ⟨ad, ks, n, rfl, _, _, rfl, hr, rk, _⟩ := dct_of rel2.hp (t1.ext e2) h1
        obtain ⟨v, hv, rv⟩ := getD_some rk h3
        exact ⟨ad, v, rfl, .inl ⟨ks, k, hr, keyD_rv h2 t2, hv.symm⟩, Out.ret o2 rel2.hp rv⟩
def opDIn (neg : Bool) : D2 := fun b a S => match dctAt S a, keyD b with
  | some (_, kvs), some k => .ok (.bl (if neg then !(getD kvs k).isSome else (getD kvs k).isSome)) S
  | _, _ => .bad
/-- d.get(k) -/
def FDGet1 (A B : Sl → Sto → R D) : Sl → Sto → R D := fun σ S => (A σ S).to fun a S1 => match dctAt S1 a with
  | some _ => (B σ S1).to fun b S2 => match dctAt S2 a, keyD b with
    | some (_, kvs), some k => .ok ((getD kvs k).getD .non) S2
    | _, _ => .bad
  | none => .bad
theorem f_dget1 (hu : X.A.units + 1 < cLine) (ho : PE X o (tF (gx X cl) W A)) (he : PE X e (tF (gx X cl) W B)) (m : M1 X o "get" apos e cpos := by exact ⟨rfl, rfl, rfl, rfl⟩) : PE X (.Call (.Attribute o "get" apos) [e] [] cpos) (tF (gx X cl) W (FDGet1 A B)) := by
  refine PE.imp (pe_dget1 hu ho he m) fun σ H Q ⟨ρ, σd, S, rel, o⟩ => ?_
  refine tG_to rel o fun a S1 x H1 ρ1 e1 rel1 t1 o1 => ?_
  cases h0 : dctAt S1 a with
  | none => rw [h0] at o1; exact o1.elim
  | some p0 =>
    rw [h0] at o1
    obtain ⟨lk0, kvs0⟩ := p0
    obtain ⟨a0, ks0, n0, rfl, hs0, hn0, rfl, hr0, _, _⟩ := dct_of rel1.hp t1 h0
    refine ⟨a0, rfl, .inl ⟨ks0, hr0⟩, tG_to rel1 o1 fun b S2 y H2 ρ2 e2 rel2 t2 o2 => ?_⟩
    cases h1 : dctAt S2 (.loc n0) with
    | none => rw [h1] at o2; exact o2.elim
    | some p =>
      obtain ⟨lk, kvs⟩ := p
      cases h2 : keyD b with
      | none => rw [h1, h2] at o2; exact o2.elim
      | some k =>
        rw [h1, h2] at o2
        dsimp only at o2
        obtain ⟨ad, ks, n, en, _, hna, ev, hr, rk, _⟩ := dct_of rel2.hp (t1.ext e2) h1
        cases ev
        cases h3 : getD kvs k with
        | none =>
          rw [h3] at o2
          exact ⟨none, .inl ⟨ks, k, hr, keyD_rv h2 t2, (getD_none rk h3).symm⟩, Out.ret o2 rel2.hp rfl⟩
        | some d =>
          rw [h3] at o2
          obtain ⟨v, hv, rv⟩ := getD_some rk h3
          exact ⟨some v, .inl ⟨ks, k, hr, keyD_rv h2 t2, hv.symm⟩, Out.ret o2 rel2.hp rv⟩
/-- d.get(k, x) -/
def FDGet2 (A B C : Sl → Sto → R D) : Sl → Sto → R D := fun σ S => (A σ S).to fun a S1 => match dctAt S1 a with
  | some _ => (B σ S1).to fun b S2 => (C σ S2).to fun c S3 => match dctAt S3 a, keyD b with
    | some (_, kvs), some k => .ok ((getD kvs k).getD c) S3
    | _, _ => .bad
  | none => .bad
theorem f_dget2 (hu : X.A.units + 1 < cLine) (ho : PE X o (tF (gx X cl) W A)) (he : PE X e (tF (gx X cl) W B)) (hf : PE X f (tF (gx X cl) W C)) (m : M2 X o "get" apos e f cpos := by exact ⟨rfl, rfl, rfl, rfl⟩) :
    PE X (.Call (.Attribute o "get" apos) [e, f] [] cpos) (tF (gx X cl) W (FDGet2 A B C)) := by
  refine PE.imp (pe_dget2 hu ho he hf m) fun σ H Q ⟨ρ, σd, S, rel, o⟩ => ?_
  refine tG_to rel o fun a S1 x H1 ρ1 e1 rel1 t1 o1 => ?_
  cases h0 : dctAt S1 a with
  | none => rw [h0] at o1; exact o1.elim
  | some p0 =>
    rw [h0] at o1
    obtain ⟨lk0, kvs0⟩ := p0
    obtain ⟨a0, ks0, n0, rfl, hs0, hn0, rfl, hr0, _, _⟩ := dct_of rel1.hp t1 h0
    refine ⟨a0, rfl, .inl ⟨ks0, hr0⟩, tG_to rel1 o1 fun b S2 y H2 ρ2 e2 rel2 t2 o2 => tG_to rel2 o2 fun c S3 z H3 ρ3 e3 rel3 t3 o3 => ?_⟩
    cases h1 : dctAt S3 (.loc n0) with
    | none => rw [h1] at o3; exact o3.elim
    | some p =>
      obtain ⟨lk, kvs⟩ := p
      cases h2 : keyD b with
      | none => rw [h1, h2] at o3; exact o3.elim
      | some k =>
        rw [h1, h2] at o3
        dsimp only at o3
        obtain ⟨ad, ks, n, en, _, hna, ev, hr, rk, _⟩ := dct_of rel3.hp (t1.ext (e2.trans e3)) h1
        cases ev
        cases h3 : getD kvs k with
        | none =>
          rw [h3] at o3
          exact ⟨none, .inl ⟨ks, k, hr, keyD_rv h2 t2, (getD_none rk h3).symm⟩, Out.ret o3 rel3.hp t3⟩
        | some d =>
          rw [h3] at o3
          obtain ⟨v, hv, rv⟩ := getD_some rk h3
          exact ⟨some v, .inl ⟨ks, k, hr, keyD_rv h2 t2, hv.symm⟩, Out.ret o3 rel3.hp rv⟩
/-- d.pop(k, x) -/
def FDPop2 (A B C : Sl → Sto → R D) : Sl → Sto → R D := fun σ S => (A σ S).to fun a S1 => match dctAt S1 a with
  | some _ => (B σ S1).to fun b S2 => (C σ S2).to fun c S3 => match a, dctAt S3 a, keyD b with
    | .loc n, some (false, kvs), some k => match getD kvs k with
      | some d => .ok d (S3.set n (.dct false (delD kvs k)))
      | none => .ok c S3
    | _, _, _ => .bad
  | none => .bad
theorem f_dpop2 (ho : PE X o (tF (gx X cl) W A)) (he : PE X e (tF (gx X cl) W B)) (hf : PE X f (tF (gx X cl) W C)) (m : M2 X o "pop" apos e f cpos := by exact ⟨rfl, rfl, rfl, rfl⟩) :
    PE X (.Call (.Attribute o "pop" apos) [e, f] [] cpos) (tF (gx X cl) W (FDPop2 A B C)) := by
  refine PE.imp (pe_dpop2 ho he hf m) fun σ H Q ⟨ρ, σd, S, rel, o⟩ => ?_
  refine tG_to rel o fun a S1 x H1 ρ1 e1 rel1 t1 o1 => ?_
  cases h0 : dctAt S1 a with
  | none => rw [h0] at o1; exact o1.elim
  | some p0 =>
    rw [h0] at o1
    obtain ⟨lk0, kvs0⟩ := p0
    obtain ⟨a0, ks0, n0, rfl, hs0, hn0, rfl, hr0, _, _⟩ := dct_of rel1.hp t1 h0
    refine ⟨a0, rfl, .inl ⟨ks0, hr0⟩, tG_to rel1 o1 fun b S2 y H2 ρ2 e2 rel2 t2 o2 => tG_to rel2 o2 fun c S3 z H3 ρ3 e3 rel3 t3 o3 => ?_⟩
    cases h1 : dctAt S3 (.loc n0) with
    | none => rw [h1] at o3; exact o3.elim
    | some p =>
      obtain ⟨lk, kvs⟩ := p
      cases lk with
      | true => rw [h1] at o3; exact o3.elim
      | false =>
        cases h2 : keyD b with
        | none => rw [h1, h2] at o3; exact o3.elim
        | some k =>
          rw [h1, h2] at o3
          dsimp only at o3
          obtain ⟨ad, ks, n, en, hsn, hna, ev, hr, rk, hl⟩ := dct_of rel3.hp (t1.ext (e2.trans e3)) h1
          cases ev; cases en
          have hH := hl rfl
          refine ⟨ks, k, hH, keyD_rv h2 t2, fun v hv => ?_, fun hv => ?_⟩
          · cases h3 : getD kvs k with
            | none => rw [getD_none rk h3] at hv; cases hv
            | some d =>
              rw [h3] at o3
              obtain ⟨v', hv', rv⟩ := getD_some rk h3
              rw [hv] at hv'; cases hv'
              have mu : Mut (H3 a0) := by rw [hH]; trivial
              have ew : Ext (gx X cl) ρ3 ρ3 H3 (upd H3 a0 (.dK (dropK ks k))) := Ext.write mu
              exact o3 _ _ ρ3 ew (rel3.hp.write hna mu ⟨_, upd_same, (delD_rv rk).ext ew⟩) (rv.ext ew)
          · cases h3 : getD kvs k with
            | some d =>
              obtain ⟨v', hv', rv⟩ := getD_some rk h3
              rw [hv] at hv'; cases hv'
            | none =>
              rw [h3] at o3
              exact Out.ret o3 rel3.hp t3
end
/-- k in d -/
def FDIn (neg : Bool) (B A : Sl → Sto → R D) : Sl → Sto → R D := F2 (opDIn neg) B A
section
variable {X : Cx} {cl : Cl} {W : WX} {o i e f : Expr} {pos apos cpos : Pos} {A B C : Sl → Sto → R D}
theorem dIn_of : ∀ σ H Q, tF (gx X cl) W (FDIn false B A) σ H Q → tDIn (tF (gx X cl) W B) (tF (gx X cl) W A) σ H Q := fun σ H Q ⟨ρ, σd, S, rel, o⟩ => by
  refine tG_to rel o fun b S1 y H1 ρ1 e1 rel1 t1 o1 => tG_to rel1 o1 fun a S2 x H2 ρ2 e2 rel2 t2 o2 => ?_
  unfold opDIn at o2
  cases h1 : dctAt S2 a with
  | none => rw [h1] at o2; exact o2.elim
  | some p =>
    obtain ⟨lk, kvs⟩ := p
    cases h2 : keyD b with
    | none => rw [h1, h2] at o2; exact o2.elim
    | some k =>
      rw [h1, h2] at o2
      obtain ⟨ad, ks, n, rfl, _, _, rfl, hr, rk, _⟩ := dct_of rel2.hp t2 h1
      refine ⟨ad, valV ks k, rfl, .inl ⟨ks, k, hr, keyD_rv h2 (t1.ext e2), rfl⟩, ?_⟩
      have : (valV ks k).isSome = (getD kvs k).isSome := by
        cases h3 : getD kvs k with
        | none => rw [getD_none rk h3]; rfl
        | some d => obtain ⟨v, hv, _⟩ := getD_some rk h3; rw [hv]; rfl
      rw [this]
      exact Out.ret o2 rel2.hp rfl
theorem t_din (hu : X.A.units + 1 < cLine) (hi : PE X i (tF (gx X cl) W B)) (ho : PE X o (tF (gx X cl) W A)) (h1 : behindInMarks .In o = false := by rfl) : PT X (.Compare i [.In] [o] pos) (tT (gx X cl) W (TB (FDIn false B A))) :=
  PT.imp (pt_cmp (pc_din hu hi ho) h1) fun σ H Q h => tb_of (dIn_of σ H) h
theorem f_din (hu : X.A.units + 1 < cLine) (hi : PE X i (tF (gx X cl) W B)) (ho : PE X o (tF (gx X cl) W A)) (h1 : behindInMarks .In o = false := by rfl) : PE X (.Compare i [.In] [o] pos) (tF (gx X cl) W (FDIn false B A)) :=
  PE.imp (pe_cmp (pc_din hu hi ho) h1) dIn_of
/-- {} -/
theorem f_dnew : PE X (.Dict [] [] pos) (tF (gx X cl) W (fun _ S => newDct S)) := PE.imp pe_dnewK fun σ H Q ⟨ρ, σd, S, rel, o⟩ => fun p hp => by
  have e : Ext (gx X cl) ρ (ρ ++ [p]) H (upd H p (.dK [])) := (Ext.new hp).more
  refine o _ _ (ρ ++ [p]) e (rel.hp.new hp ⟨[], upd_same, rfl⟩) ⟨p, rfl, ?_⟩
  rw [← rel.hp.len, List.getElem?_append_right (Nat.le_refl _)]; simp
/-- d[k] = v -/
def putAt (a b c : D) (S : Sto) : Option Sto := match a with
  | .loc n => match dctAt S (.loc n) with
    | some (false, kvs) => match keyD b with
      | some k => if kvs.length < line ∧ ndK kvs = true then some (S.set n (.dct false (putD kvs k c))) else none
      | none => none
    | _ => none
  | _ => none
def SDPut (A B C : Sl → Sto → R D) : Sl → Sto → RS := fun σ S => toS σ (C σ S) fun c S1 => toS σ (A σ S1) fun a S2 => toS σ (B σ S2) fun b S3 => match putAt a b c S3 with
  | some S4 => .ok .nx σ S4
  | none => .bad
theorem put_of {G : Ct} {ρ : List Addr} {H : Hp} {S S' : Sto} {a b c : D} {x y z : V} (rel : RelH G ρ H S) (ra : RV G ρ H a x) (rb : RV G ρ H b y) (rc : RV G ρ H c z) (h : putAt a b c S = some S') : ∃ ad H', x = .ref ad ∧ DPut H ad y z H' ∧ Ext G ρ ρ H H' ∧ RelH G ρ H' S' := by
  unfold putAt at h
  cases a <;> first | cases h | skip
  rename_i n
  dsimp only at h
  cases h1 : dctAt S (.loc n) with
  | none => rw [h1] at h; cases h
  | some p =>
    obtain ⟨lk, kvs⟩ := p
    cases lk with
    | true => rw [h1] at h; cases h
    | false =>
      cases h2 : keyD b with
      | none => rw [h1, h2] at h; cases h
      | some k =>
        rw [h1, h2] at h
        dsimp only at h
        by_cases hl : kvs.length < line ∧ ndK kvs = true
        · rw [if_pos hl] at h
          cases h
          obtain ⟨ad, ks, n', en, hsn, hna, ev, hr, rk, hf⟩ := dct_of rel ra h1
          cases en; cases ev
          have hH := hf rfl
          have mu : Mut (H ad) := by rw [hH]; trivial
          have ew : Ext G ρ ρ H (upd H ad (.dK (putK ks k z))) := Ext.write mu
          exact ⟨ad, _, rfl, .inl ⟨ks, k, hH, keyD_rv h2 rb, by rw [← rk.length]; exact line_lt hl.1, rfl⟩, ew, rel.write hna mu ⟨_, upd_same, (putD_rv rc rk (ndK_of hl.2)).ext ew⟩⟩
        · rw [if_neg hl] at h; cases h
theorem s_dput {value : Expr} {pos' : Pos} (hu : X.A.units + 1 < cLine) (ho : PE X o (tF (gx X cl) W A)) (hi : PE X i (tF (gx X cl) W B)) (hv : PE X value (tF (gx X cl) W C)) (hs : swapsWith value (some (.Subscript o i pos')) pos.line X.env = pure false := by rfl) :
    PS X (.Assign [.Subscript o i pos'] value pos) (tS (gx X cl) W (SDPut A B C)) := by
  refine PS.imp (ps_dput hu ho hi hv hs) fun D σ H ⟨ρ, σd, S, rel, o⟩ => ?_
  refine tG_toS rel o fun c S1 z H1 ρ1 e1 rel1 t1 o1 => tG_toS rel1 o1 fun a S2 x H2 ρ2 e2 rel2 t2 o2 => tG_toS rel2 o2 fun b S3 y H3 ρ3 e3 rel3 t3 o3 => ?_
  cases h : putAt a b c S3 with
  | none => rw [h] at o3; exact o3.elim
  | some S4 =>
    rw [h] at o3
    obtain ⟨ad, H4, ex, dp, ew, r4⟩ := put_of rel3.hp (t2.ext e3) t3 (t1.ext (e2.trans e3)) h
    exact ⟨ad, H4, ex, dp, OutS.now (OutS.mono ew o3) (rel3.step ew r4)⟩
/-- xs.append(e) -/
def FApp (A : Sl → Sto → R D) (B : Sl → Sto → R (List D)) : Sl → Sto → R D := fun σ S => (A σ S).to fun a S1 => match a with
  | .loc n => match S1[n]? with
    | some (.lst _) => (B σ S1).to fun ds S2 => match ds with
      | [d] => match S2[n]? with
        | some (.lst xs) => if xs.length < line then .ok .non (S2.set n (.lst (xs ++ [d]))) else .bad
        | _ => .bad
      | _ => .bad
    | _ => .bad
  | _ => .bad
theorem f_app {e : Expr} {B : Sl → Sto → R (List D)} (ho : PE X o (tF (gx X cl) W A)) (ha : PA X [e] (tA (gx X cl) W B)) (hbase : attributeBase o "append" X.env (eval o X.env) = eval o X.env := by rfl)
    (hfew : ((backTo cpos (starEach (e :: []) X.env)).all (fun x => !x.1) && (backToKw cpos (keywordEach [] X.env)).all (fun x => x.1.isSome)
      && decide ((e :: []).length + ([] : List Keyword).length + (if ([] : List Keyword).isEmpty then 0 else 1) < 30)) = true := by rfl)
    (hline : (apos.endLine == cpos.line) = true := by rfl) (hs : starEach (e :: []) X.env = (false, eval e X.env) :: starEach [] X.env := by rfl) (hplain : (backTo cpos (starEach [] X.env)).any (·.1) = false := by rfl) :
    PE X (.Call (.Attribute o "append" apos) [e] [] cpos) (tF (gx X cl) W (FApp A B)) := by
  refine PE.imp (pe_bm PySem.F.plainAttrs_list PySem.F.slot_list_append PySem.F.type_list_append mt_append ho ha hbase hfew hline hs hplain) fun σ H Q ⟨ρ, σd, S, rel, o⟩ => ?_
  refine tG_to rel o fun a S1 x H1 ρ1 e1 rel1 t1 o1 => ?_
  cases a <;> first | exact o1.elim | skip
  rename_i n
  dsimp only at o1
  split at o1
  · rename_i xs0 hs0
    obtain ⟨a0, vs0, rfl, ea0, h10, _⟩ := seqL_of rel1.hp t1 hs0
    refine ⟨Or.inl ⟨rfl, _, SqL.of h10⟩, tG_to rel1 o1 fun ds S2 vs H2 ρ2 e2 rel2 t2 o2 => ?_⟩
    match ds, t2, o2 with
    | [], _, o2 => exact o2.elim
    | [d], t2, o2 =>
      obtain ⟨v, rfl, rv⟩ := rvs1 t2
      dsimp only at o2
      split at o2
      · rename_i xs hs
        obtain ⟨a1, vs1, ev, ea, h1, r1⟩ := seqL_of rel2.hp (t1.ext e2) hs
        cases ev
        by_cases hl : xs.length < line
        · rw [if_pos hl] at o2
          have mu : Mut (H2 a0) := by rw [h1]; trivial
          have ew : Ext (gx X cl) ρ2 ρ2 H2 (upd H2 a0 (.lst (vs1 ++ [v]))) := Ext.write mu
          exact ⟨a0, vs1, v, rfl, rfl, h1, by rw [← r1.length]; exact line_lt hl, o2 _ _ ρ2 ew (rel2.hp.write ea mu ⟨_, upd_same, (r1.append (show RVs (gx X cl) ρ2 H2 [d] [v] from ⟨v, [], rfl, rv, rfl⟩)).ext ew⟩) rfl⟩
        · rw [if_neg hl] at o2; exact o2.elim
      · exact o2.elim
    | _ :: _ :: _, _, o2 => exact o2.elim
  · exact o1.elim
/-- xs[i] = v on a list -/
def setAt (a b c : D) (S : Sto) : Option Sto := match a with
  | .loc n => match S[n]? with
    | some (.lst xs) => match b with
      | .int k => match ixN xs.length k with
        | some j => some (S.set n (.lst (xs.set j c)))
        | none => none
      | _ => none
    | _ => none
  | _ => none
def rSet2 : V → V → V → Hp → (Hp → Prop) → Prop := rSetL
/-- the target o[i] of a list -/
def gIx (A B : Sl → Sto → R D) : TgF := fun c σ S => toS σ (A σ S) fun a S1 => toS σ (B σ S1) fun b S2 => match setAt a b c S2 with
  | some S3 => .ok .nx σ S3
  | none => .bad
theorem toS_nx {α : Type} {σ σ1 : Sl} {r : R α} {k : α → Sto → RS} {f : Fl} {S1 : Sto} (h : toS σ r k = .ok f σ1 S1) : ∃ a S, r = .ok a S ∧ k a S = .ok f σ1 S1 := by
  cases r with
  | ok a S => exact ⟨a, S, rfl, h⟩
  | ex c fs S => cases h
  | bad => cases h
theorem nx_ix {A B : Sl → Sto → R D} : NxT (gIx A B) := fun d σ S f σ1 S1 h => by
  obtain ⟨a, S2, _, h⟩ := toS_nx h
  obtain ⟨b, S3, _, h⟩ := toS_nx h
  cases e : setAt a b d S3 with
  | none => rw [e] at h; cases h
  | some S4 => rw [e] at h; cases h; rfl
theorem g_ix (ho : PE X o (tF (gx X cl) W A)) (hi : PE X i (tF (gx X cl) W B)) (ha : ∀ v, assign (.Subscript o i pos) X.env v = (do
      let ov ← holding [v] (eval o X.env)
      let iv ← holding [v, ov] (eval i X.env)
      standAt pos
      holding [v, ov, iv] (setItem ov iv v)
      release [v, ov, iv] []) := by intro _; rfl) : PG X (.Subscript o i pos) (tTg (gx X cl) W (gIx A B)) := by
  refine PG.imp (pg_sub ho hi set_list ha) fun v σ H Q ⟨ρ, σd, S, c, rel, rc, o⟩ => ?_
  refine tG_toS rel o fun a S1 x H1 ρ1 e1 rel1 t1 o1 => tG_toS rel1 o1 fun b S2 y H2 ρ2 e2 rel2 t2 o2 => ?_
  cases hp : setAt a b c S2 with
  | none => rw [hp] at o2; exact o2.elim
  | some S3 =>
    rw [hp] at o2
    unfold setAt at hp
    cases a <;> first | cases hp | skip
    rename_i n
    dsimp only at hp
    split at hp
    · rename_i xs hs
      cases b <;> first | cases hp | skip
      rename_i k
      dsimp only at hp
      cases hj : ixN xs.length k with
      | none => rw [hj] at hp; cases hp
      | some j =>
        rw [hj] at hp
        cases hp
        obtain ⟨a1, vs1, ev, ea, h1, r1⟩ := seqL_of rel2.hp (t1.ext e2) hs
        have mu : Mut (H2 a1) := by rw [h1]; trivial
        have ew : Ext (gx X cl) ρ2 ρ2 H2 (upd H2 a1 (.lst (vs1.set j v))) := Ext.write mu
        have rc2 := rc.ext (e1.trans e2)
        exact ⟨a1, vs1, k, j, ev, t2, h1, by rw [← r1.length]; exact hj, OutS.now (OutS.mono ew o2) (rel2.step ew (rel2.hp.write ea mu ⟨_, upd_same, (r1.set rc2 j).ext ew⟩))⟩
    · cases hp
end

/-! ### locks: a dict that is walked -/
theorem unlock_ok {G : Ct} {ρ ρ' : List Addr} {H H' : Hp} {S' : Sto} {n : Nat} {a : Addr} {u : List (Key × V)} {od : Obj} {kvs : List (Key × D)} (hn : ρ[n]? = some a) (hH : H a = some (.dK u)) (e : Ext G ρ ρ' (upd H a (.frz od (.dK u))) H') (r : RelH G ρ' H' S') (hs : S'[n]? = some (.dct true kvs)) :
    H' a = some (.frz od (.dK u)) ∧ Ext G ρ ρ' H (upd H' a (.dK u)) ∧ RelH G ρ' (upd H' a (.dK u)) (S'.set n (.dct false kvs)) ∧ ExtW G ρ' ρ' H' (upd H' a (.dK u)) := by
  have h1 : H' a = some (.frz od (.dK u)) := e.frz _ _ _ upd_same
  have hn' := Ext.get e hn
  have w : ExtW G ρ' ρ' H' (upd H' a (.dK u)) := by
    refine ⟨⟨[], by simp⟩, fun b xs q => ?_, fun b o xs q => ?_, fun b xs q => ?_⟩
    · refine sqt_ne ?_ ?_ ?_ q
      · rw [h1]; intro z; cases z
      · intro xs z; rw [h1] at z; cases z
      · intro o xs z; rw [h1] at z; cases z
    · rw [upd_ne (fun z => by subst z; rw [h1] at q; cases q)]; exact q
    · rw [upd_ne (fun z => by subst z; rw [h1] at q; cases q)]; exact q
  refine ⟨h1, ⟨e.pre, fun b xs q => w.tup _ _ (e.tup _ _ ?_), fun b o x q => ?_, fun b x q => ?_⟩, ?_, w⟩
  · refine sqt_ne ?_ ?_ ?_ q
    · rw [hH]; intro z; cases z
    · intro xs z; rw [hH] at z; cases z
    · intro o xs z; rw [hH] at z; cases z
  · have hb : b ≠ a := fun z => by subst z; rw [hH] at q; cases q
    rw [upd_ne hb]
    exact e.frz _ _ _ (by rw [upd_ne hb]; exact q)
  · have hb : b ≠ a := fun z => by subst z; rw [hH] at q; cases q
    rw [upd_ne hb]
    exact e.xd _ _ (by rw [upd_ne hb]; exact q)
  · obtain ⟨ks, o2, q1, q2⟩ := r.obj n a _ hn' hs
    rw [h1] at q1
    cases q1
    refine ⟨by simp [r.len], r.nd, fun m b x p1 p2 => ?_⟩
    by_cases em : n = m
    · subst em
      rw [hn'] at p1; cases p1
      have hl : n < S'.length := (List.getElem?_eq_some_iff.mp hs).1
      rw [List.getElem?_set_self hl] at p2
      cases p2
      exact ⟨_, upd_same, q2.extW w⟩
    · rw [List.getElem?_set_ne em] at p2
      refine (r.obj m b x p1 p2).extW w (upd_ne fun z => ?_)
      subst z
      obtain ⟨i1, r1⟩ := List.getElem?_eq_some_iff.mp hn'
      obtain ⟨i2, r2⟩ := List.getElem?_eq_some_iff.mp p1
      exact em ((List.getElem_inj r.nd).mp (r1.trans r2.symm))
theorem Rel.extW {G : Ct} {ρ ρ' : List Addr} {σ : St} {σd : Sl} {H H' : Hp} {S S' : Sto} (r : Rel G ρ σ σd H S) (e : ExtW G ρ ρ' H H') (h : RelH G ρ' H' S') : Rel G ρ' σ σd H' S' :=
  ⟨h, r.len, fun i d q => by
    obtain ⟨v, e1, h1⟩ := r.sl i d q
    exact ⟨v, e1, h1.extW e⟩⟩
theorem lock_ok {G : Ct} {ρ : List Addr} {H : Hp} {S : Sto} {n : Nat} {a : Addr} {u : List (Key × V)} {od : Obj} {kvs : List (Key × D)} (r : RelH G ρ H S) (hn : ρ[n]? = some a) (hH : H a = some (.dK u)) (rk : RKs G ρ H kvs u) :
    Ext G ρ ρ H (upd H a (.frz od (.dK u))) ∧ RelH G ρ (upd H a (.frz od (.dK u))) (S.set n (.dct true kvs)) := by
  have mu : Mut (H a) := by rw [hH]; trivial
  have ew : Ext G ρ ρ H (upd H a (.frz od (.dK u))) := Ext.write mu
  exact ⟨ew, r.write hn mu ⟨_, _, upd_same, rk.ext ew⟩⟩
/-- the store with the dict n locked, unlocked -/
def lockS (n : Nat) (S : Sto) : Option Sto := match S[n]? with
  | some (.dct false kvs) => some (S.set n (.dct true kvs))
  | _ => none
def unlockS (n : Nat) (S : Sto) : Option Sto := match S[n]? with
  | some (.dct true kvs) => some (S.set n (.dct false kvs))
  | _ => none
/-- a statement that walks the dict in slot i -/
def SLock (i : Nat) (B : Sl → Sto → RS) : Sl → Sto → RS := fun σ S => match σ[i]? with
  | some (some (.loc n)) => match lockS n S with
    | some S1 => match B σ S1 with
      | .ok f σ2 S2 => match unlockS n S2 with
        | some S3 => .ok f σ2 S3
        | none => .bad
      | _ => .bad
    | none => .bad
  | _ => .bad
section
variable {X : Cx} {cl : Cl} {W : WX}
theorem s_lock {st : Stmt} {i : Nat} {B : Sl → Sto → RS} (h : PS X st (tS (gx X cl) W B)) : PS X st (tS (gx X cl) W (SLock i B)) := by
  refine PS.imp (ps_lock h) fun D σ H ⟨ρ, σd, S, rel, o⟩ => ?_
  unfold SLock at o
  cases e0 : σd[i]? with
  | none => rw [e0] at o; exact o.elim
  | some od =>
    cases od with
    | none => rw [e0] at o; exact o.elim
    | some d =>
      rw [e0] at o
      cases d <;> first | exact o.elim | skip
      rename_i n
      dsimp only at o
      obtain ⟨v, ev, rv⟩ := rel.sl i _ e0
      have rv := rv.rv (by intro _ _ z; cases z)
      unfold lockS at o
      split at o
      · rename_i S1 hl
        split at hl
        · rename_i kvs hs
          cases hl
          obtain ⟨a, rfl, hn, u, hH, rk⟩ := rel.hp.at hs rv
          refine ⟨a, .dK u, hH, trivial, fun od => ?_⟩
          obtain ⟨ew, r1⟩ := lock_ok (od := od) rel.hp hn hH rk
          refine ⟨ρ, σd, _, rel.step ew r1, ?_⟩
          cases eB : B σd (S.set n (.dct true kvs)) with
          | bad => rw [eB] at o; exact o.elim
          | ex c fs σ2 S2 => rw [eB] at o; exact o.elim
          | ok f σ2 S2 =>
            rw [eB] at o
            dsimp only at o
            unfold unlockS at o
            split at o
            · rename_i S3 hu
              split at hu
              · rename_i kvs2 hs2
                cases hu
                intro σ' H' ρ' e2 rel2
                obtain ⟨q1, q2, q3, q4⟩ := unlock_ok hn hH e2 rel2.hp hs2
                have q := o σ' _ ρ' q2 (rel2.extW q4 q3)
                cases f with
                | nx => exact ⟨q1, q⟩
                | bk => exact ⟨q1, q⟩
                | ct => exact ⟨q1, q⟩
                | rt d => exact fun v rd => ⟨q1, q v (RV.extW q4 _ _ rd)⟩
              · cases hu
            · exact o.elim
        · cases hl
      · exact o.elim
def FLock (i : Nat) (B : Sl → Sto → R D) : Sl → Sto → R D := fun σ S => match σ[i]? with
  | some (some (.loc n)) => match lockS n S with
    | some S1 => match B σ S1 with
      | .ok d S2 => match unlockS n S2 with
        | some S3 => .ok d S3
        | none => .bad
      | _ => .bad
    | none => .bad
  | _ => .bad
theorem f_lock {e : Expr} {i : Nat} {B : Sl → Sto → R D} (h : PE X e (tF (gx X cl) W B)) : PE X e (tF (gx X cl) W (FLock i B)) := by
  refine PE.imp (pe_lock h) fun σ H Q ⟨ρ, σd, S, rel, o⟩ => ?_
  unfold FLock at o
  cases e0 : σd[i]? with
  | none => rw [e0] at o; exact o.elim
  | some od =>
    cases od with
    | none => rw [e0] at o; exact o.elim
    | some d =>
      rw [e0] at o
      cases d <;> first | exact o.elim | skip
      rename_i n
      dsimp only at o
      obtain ⟨v, ev, rv⟩ := rel.sl i _ e0
      have rv := rv.rv (by intro _ _ z; cases z)
      unfold lockS at o
      split at o
      · rename_i S1 hl
        split at hl
        · rename_i kvs hs
          cases hl
          obtain ⟨a, rfl, hn, u, hH, rk⟩ := rel.hp.at hs rv
          refine ⟨a, .dK u, hH, trivial, fun od => ?_⟩
          obtain ⟨ew, r1⟩ := lock_ok (od := od) rel.hp hn hH rk
          refine ⟨ρ, σd, _, rel.step ew r1, ?_⟩
          cases eB : B σd (S.set n (.dct true kvs)) with
          | bad => rw [eB] at o; exact o.elim
          | ex c fs S2 => rw [eB] at o; exact o.elim
          | ok d S2 =>
            rw [eB] at o
            dsimp only at o
            unfold unlockS at o
            split at o
            · rename_i S3 hu
              split at hu
              · rename_i kvs2 hs2
                cases hu
                intro v H' ρ' e2 rel2 rd
                obtain ⟨q1, q2, q3, q4⟩ := unlock_ok hn hH e2 rel2 hs2
                exact ⟨q1, o v _ ρ' q2 q3 (RV.extW q4 _ _ rd)⟩
              · cases hu
            · exact o.elim
        · cases hl
      · exact o.elim
/-- what is walked: the dict's keys, its pairs -/
theorem i_keys {tg e : Expr} {A : Sl → Sto → R D} (he : PE X e (tF (gx X cl) W A)) : PI X tg e (tI (gx X cl) W (fun σ S => (A σ S).to fun a S1 => match a with
      | .loc n => match S1[n]? with
        | some (.dct true _) => .ok (.keys n) S1
        | _ => .bad
      | _ => .bad)) := by
  refine PI.imp (pi_keys he) fun σ H Q ⟨ρ, σd, S, rel, o⟩ => ?_
  refine tG_to rel o fun a S1 x H1 ρ1 e1 rel1 t1 o1 => ?_
  cases a <;> first | exact o1.elim | skip
  rename_i n
  dsimp only at o1
  split at o1
  · rename_i kvs hs
    obtain ⟨b, rfl, hb, ks, od, h1, h2⟩ := rel1.hp.at hs t1
    refine ⟨b, od, rfl, .inl ⟨ks, h1, Out.ret o1 rel1.hp ⟨fun ρ' H' S' i e r hn => ?_, fun ρ' H' S' i d e r hn => ?_⟩⟩⟩
    · have f1 : H' b = some (.frz od (.dK ks)) := e.frz _ _ _ h1
      unfold nextI at hn
      dsimp only at hn
      split at hn
      · rename_i kvs' hs'
        obtain ⟨ks', od', g1, g2⟩ := r.obj n b _ (e.get hb) hs'
        rw [f1] at g1; cases g1
        have hi : kvs'[i]? = none := by
          cases q : kvs'[i]? with
          | none => rfl
          | some p => rw [q] at hn; cases hn
        exact ⟨f1, by rw [← g2.length]; exact List.getElem?_eq_none_iff.mp hi⟩
      · cases hn
    · have f1 : H' b = some (.frz od (.dK ks)) := e.frz _ _ _ h1
      unfold nextI at hn
      dsimp only at hn
      split at hn
      · rename_i kvs' hs'
        obtain ⟨ks', od', g1, g2⟩ := r.obj n b _ (e.get hb) hs'
        rw [f1] at g1; cases g1
        cases q : kvs'[i]? with
        | none => rw [q] at hn; cases hn
        | some p =>
          rw [q] at hn; cases hn
          obtain ⟨v, hv, rv⟩ := g2.get q
          refine ⟨⟨f1, (List.getElem?_eq_some_iff.mp hv).1⟩, fun x H2 ⟨eH, k, w, hk, ex⟩ => ?_⟩
          subst eH; subst ex
          rw [hv] at hk; cases hk
          exact ⟨Ext.refl, r, kD_rv _⟩
      · cases hn
  · exact o1.elim
theorem i_items {elts : List Expr} {kk : Nat} {tpos apos cpos : Pos} {e : Expr} {A : Sl → Sto → R D} (he : PE X e (tF (gx X cl) W A)) (hbase : attributeBase e "items" X.env (eval e X.env) = eval e X.env := by rfl) (hline : (apos.endLine == cpos.line) = true := by rfl) :
    PI X (.Tuple elts kk tpos) (.Call (.Attribute e "items" apos) [] [] cpos) (tI (gx X cl) W (fun σ S => (A σ S).to fun a S1 => match a with
      | .loc n => match S1[n]? with
        | some (.dct true _) => .ok (.items n) S1
        | _ => .bad
      | _ => .bad)) := by
  refine PI.imp (pi_items he hbase hline) fun σ H Q ⟨ρ, σd, S, rel, o⟩ => ?_
  refine tG_to rel o fun a S1 x H1 ρ1 e1 rel1 t1 o1 => ?_
  cases a <;> first | exact o1.elim | skip
  rename_i n
  dsimp only at o1
  split at o1
  · rename_i kvs hs
    obtain ⟨b, rfl, hb, ks, od, h1, h2⟩ := rel1.hp.at hs t1
    refine ⟨b, od, ks, rfl, h1, Out.ret o1 rel1.hp ⟨fun ρ' H' S' i e r hn => ?_, fun ρ' H' S' i d e r hn => ?_⟩⟩
    · have f1 : H' b = some (.frz od (.dK ks)) := e.frz _ _ _ h1
      unfold nextI at hn
      dsimp only at hn
      split at hn
      · rename_i kvs' hs'
        obtain ⟨ks', od', g1, g2⟩ := r.obj n b _ (e.get hb) hs'
        rw [f1] at g1; cases g1
        have hi : kvs'[i]? = none := by
          cases q : kvs'[i]? with
          | none => rfl
          | some p => rw [q] at hn; cases hn
        exact ⟨f1, by rw [← g2.length]; exact List.getElem?_eq_none_iff.mp hi⟩
      · cases hn
    · have f1 : H' b = some (.frz od (.dK ks)) := e.frz _ _ _ h1
      unfold nextI at hn
      dsimp only at hn
      split at hn
      · rename_i kvs' hs'
        obtain ⟨ks', od', g1, g2⟩ := r.obj n b _ (e.get hb) hs'
        rw [f1] at g1; cases g1
        cases q : kvs'[i]? with
        | none => rw [q] at hn; cases hn
        | some p =>
          rw [q] at hn; cases hn
          obtain ⟨v, hv, rv⟩ := g2.get q
          refine ⟨⟨f1, (List.getElem?_eq_some_iff.mp hv).1⟩, fun x H2 ⟨T, k, w, hk, ex, hT, eH⟩ => ?_⟩
          subst eH; subst ex
          rw [hv] at hk; cases hk
          have e2 : Ext (gx X cl) ρ' ρ' H' (upd H' T (.tup [kV p.1, v])) := Ext.new hT
          exact ⟨e2, r.side hT, T, _, rfl, SqT.of upd_same, _, _, rfl, kD_rv _, _, _, rfl, rv.ext e2, rfl⟩
      · cases hn
  · exact o1.elim
end
end Mi
set_option Elab.async false
set_option autoImplicit false
set_option linter.all false
set_option maxRecDepth 100000
set_option maxHeartbeats 4000000
namespace Mi
open PySem L2

/-! ### comprehensions -/
theorem wipe_set {σ : L2.St} {j : Nat} {x : Option V} : ∀ {vs : List Nat}, j ∈ vs → wipe (σ.set j x) vs = wipe σ vs
  | [], h => by cases h
  | v :: vs, h => by
    have any : ∀ (ws : List Nat), j ∉ ws → wipe (σ.set j x) ws = (wipe σ ws).set j x := fun ws => by
      induction ws with
      | nil => intro _; rfl
      | cons w ws ih =>
        intro hn
        rw [List.mem_cons, not_or] at hn
        show (wipe (σ.set j x) ws).set w none = ((wipe σ ws).set w none).set j x
        rw [ih hn.2, List.set_comm _ _ hn.1]
    show (wipe (σ.set j x) vs).set v none = (wipe σ vs).set v none
    by_cases hm : j ∈ vs
    · rw [wipe_set hm]
    · rw [any vs hm]
      have e : v = j := by
        rcases List.mem_cons.mp h with z | z
        · exact z.symm
        · exact absurd z hm
      subst e
      rw [List.set_set]
theorem wipe_idem {σ : L2.St} {vs : List Nat} : wipe (wipe σ vs) vs = wipe σ vs := by
  have key : ∀ (ws : List Nat), (∀ w ∈ ws, w ∈ vs) → wipe (wipe σ ws) vs = wipe σ vs := fun ws => by
    induction ws with
    | nil => intro _; rfl
    | cons w ws ih =>
      intro h
      show wipe ((wipe σ ws).set w none) vs = _
      rw [wipe_set (h w List.mem_cons_self), ih fun z hz => h z (List.mem_cons_of_mem _ hz)]
  exact key vs fun _ h => h
def wipeD (σ : Sl) : List Nat → Sl
  | [] => σ
  | v :: vs => (wipeD σ vs).set v none
theorem Rel.wipe {G : Ct} {ρ : List Addr} {σ : L2.St} {σd : Sl} {H : Hp} {S : Sto} (r : Rel G ρ σ σd H S) : ∀ vs : List Nat, Rel G ρ (L2.wipe σ vs) (wipeD σd vs) H S
  | [] => r
  | v :: vs => by
    have q := r.wipe vs
    refine ⟨q.hp, by show ((L2.wipe σ vs).set v none).length = ((wipeD σd vs).set v none).length; simp [q.len], fun i d h => ?_⟩
    have h' : ((wipeD σd vs).set v none)[i]? = some (some d) := h
    by_cases e : v = i
    · subst e
      by_cases hl : v < (wipeD σd vs).length
      · rw [List.getElem?_set_self hl] at h'; cases h'
      · rw [List.getElem?_eq_none (by simp; omega)] at h'; cases h'
    · rw [List.getElem?_set_ne e] at h'
      obtain ⟨w, h1, h2⟩ := q.sl i d h'
      exact ⟨w, by show ((L2.wipe σ vs).set v none)[i]? = _; rw [List.getElem?_set_ne e]; exact h1, h2⟩
/-- a comprehension's target: a name, two names -/
inductive Tgt where
  | one (j : Nat) | two (i j : Nat)
def Tgt.put (t : Tgt) (d : D) (σ : Sl) : Option Sl := match t with
  | .one j => some (σ.set j (some d))
  | .two i j => match d with
    | .tup [a, b] => some ((σ.set i (some a)).set j (some b))
    | _ => none
/-- the reading of a target that a comprehension has -/
structure TgOk (G : Ct) (t : Tgt) (vs : List Nat) (g : TG) : Prop where
  run : ∀ ρ σ σd H S d v (Q : L2.St → Hp → Prop) σ2d, Rel G ρ σ σd H S → RV G ρ H d v → t.put d σd = some σ2d → (∀ σ2, Rel G ρ σ2 σ2d H S → L2.wipe σ2 vs = L2.wipe σ vs → Q σ2 H) → g v σ H Q
abbrev W0 : WX := fun _ _ _ _ => False
theorem tg_one {G : Ct} {j : Nat} {vs : List Nat} (h : j ∈ vs) : TgOk G (.one j) vs (gName j) :=
  ⟨fun ρ σ σd H S d v Q σ2d rel r e q => by
    cases e
    exact q _ (rel.set r j) (wipe_set h)⟩
theorem tg_two {G : Ct} {i j : Nat} {vs : List Nat} (hi : i ∈ vs) (hj : j ∈ vs) : TgOk G (.two i j) vs (gTup G.K 2 (gCons (gName i) (gCons (gName j) gNil))) :=
  ⟨fun ρ σ σd H S d v Q σ2d rel r e q => by
    cases d <;> first | cases e | skip
    rename_i ds
    match ds, e, r with
    | [a, b], e, r =>
      cases e
      obtain ⟨p, vs', rfl, h1, h2⟩ := r
      obtain ⟨x, y, rfl, h3, h4⟩ := rvs2 h2
      exact ⟨p, [x, y], rfl, h1, rfl, x, [y], rfl, y, [], rfl, rfl, q _ ((rel.set h3 i).set h4 j) (by rw [wipe_set hj, wipe_set hi])⟩⟩
abbrev TYes : Sl → Sto → R Bool := fun _ S => .ok true S
theorem PTs.imp {X : Cx} {e : List Expr} {t t' : TT} (h : PTs X e t) (i : ∀ σ H Q, t' σ H Q → t σ H Q) : PTs X e t' := ⟨fun pins s σ H Q I q => h.run pins s σ H Q I (i σ H Q q)⟩
/-- the turns of a list comprehension, its list at n -/
def lcL (src : Src) (t : Tgt) (T : Sl → Sto → R Bool) (E : Sl → Sto → R D) (n : Nat) : Nat → Nat → Sl → Sto → R D
  | 0, _, _, _ => .bad
  | k + 1, i, σ, S => match nextI S i src with
    | none => .bad
    | some none => .ok (.loc n) S
    | some (some d) => match t.put d σ with
      | none => .bad
      | some σ2 => match T σ2 S with
        | .ok false S1 => lcL src t T E n k (i + 1) σ S1
        | .ok true S1 => match E σ2 S1 with
          | .ok y S2 => match S2[n]? with
            | some (.lst acc) => if acc.length < line then lcL src t T E n k (i + 1) σ (S2.set n (.lst (acc ++ [y]))) else .bad
            | _ => .bad
          | _ => .bad
        | _ => .bad
def FLc (fuel : Nat) (I : Sl → Sto → R Src) (t : Tgt) (T : Sl → Sto → R Bool) (E : Sl → Sto → R D) (vs : List Nat) : Sl → Sto → R D := fun σ S => (I σ S).to fun src S1 =>
  lcL src t T E S1.length fuel 0 (wipeD σ vs) (S1 ++ [.lst []])
section
variable {X : Cx} {cl : Cl} {W : WX}
theorem lc_of {fuel : Nat} {I : Sl → Sto → R Src} {t : Tgt} {g : TG} {T : Sl → Sto → R Bool} {E : Sl → Sto → R D} {vs : List Nat} (hg : TgOk (gx X cl) t vs g) : ∀ σ H Q, tF (gx X cl) W (FLc fuel I t T E vs) σ H Q →
    tLc (tI (gx X cl) W I) g (tT (gx X cl) W0 T) (tF (gx X cl) W0 E) vs σ H Q := fun σ H Q ⟨ρ, σd, S, rel, o⟩ => by
  refine tG_to rel o fun src S1 J H1 ρ1 e1 rel1 t1 o1 => fun Dl hD => ?_
  have eD : Ext (gx X cl) ρ1 (ρ1 ++ [Dl]) H1 (upd H1 Dl (.lst [])) := (Ext.new hD).more
  have rD : RelH (gx X cl) (ρ1 ++ [Dl]) (upd H1 Dl (.lst [])) (S1 ++ [.lst []]) := rel1.hp.new hD ⟨[], upd_same, rfl⟩
  have aD : (ρ1 ++ [Dl])[S1.length]? = some Dl := by rw [← rel1.hp.len, List.getElem?_append_right (Nat.le_refl _)]; simp
  have relD := (rel1.step eD rD).wipe vs
  refine ⟨fun i m H => ∃ ρ S, Ext (gx X cl) (ρ1 ++ [Dl]) ρ (upd H1 Dl (.lst [])) H ∧ Rel (gx X cl) ρ (wipe σ vs) (wipeD σd vs) H S ∧ Out (gx X cl) (RV (gx X cl)) W ρ σ H (lcL src t T E S1.length m i (wipeD σd vs) S) Q, ⟨fuel, _, _, Ext.refl, relD, Out.mono eD o1⟩, ?_⟩
  rintro i m H2 ⟨ρ2, S2, e2, rel2, o2⟩
  cases m with
  | zero => exact o2.elim
  | succ m =>
    unfold lcL at o2
    cases hn : nextI S2 i src with
    | none => rw [hn] at o2; exact o2.elim
    | some od =>
      rw [hn] at o2
      cases od with
      | none => exact .inl ⟨t1.stop ρ2 H2 S2 i (eD.trans e2) rel2.hp hn, Out.ret o2 rel2.hp ⟨Dl, rfl, e2.get aD⟩⟩
      | some d =>
        dsimp only at o2
        obtain ⟨g1, g2⟩ := t1.go ρ2 H2 S2 i d (eD.trans e2) rel2.hp hn
        refine .inr ⟨g1, fun H => ∃ ρ S, Ext (gx X cl) (ρ1 ++ [Dl]) ρ (upd H1 Dl (.lst [])) H ∧ Rel (gx X cl) ρ (wipe σ vs) (wipeD σd vs) H S ∧ Out (gx X cl) (RV (gx X cl)) W ρ σ H (lcL src t T E S1.length m (i + 1) (wipeD σd vs) S) Q, fun H' h => ⟨m, Nat.lt_succ_self m, h⟩, fun x H3 y => ?_⟩
        obtain ⟨e3, r3, rv⟩ := g2 x H3 y
        have o3 := Out.mono e3 o2
        cases hp : t.put d (wipeD σd vs) with
        | none => rw [hp] at o3; exact o3.elim
        | some σ2d =>
          rw [hp] at o3
          dsimp only at o3
          refine hg.run ρ2 (wipe σ vs) (wipeD σd vs) H3 S2 d x _ σ2d (rel2.step e3 r3) rv hp fun σ4 rel4 hw => ⟨hw.trans wipe_idem, ?_⟩
          cases hT : T σ2d S2 with
          | bad => rw [hT] at o3; exact o3.elim
          | ex c fs S3 => rw [hT] at o3; exact o3.elim
          | ok b S3 =>
            rw [hT] at o3
            refine ⟨ρ2, σ2d, S2, rel4, ?_⟩
            rw [hT]
            intro b' H4 ρ4 e4 r4 eb
            subst eb
            have o4 := Out.mono e4 o3
            cases b with
            | false =>
              rw [if_neg Bool.false_ne_true]
              exact ⟨ρ4, S3, e2.trans (e3.trans e4), (rel2.step e3 r3).step e4 r4, o4⟩
            | true =>
              rw [if_pos rfl]
              dsimp only at o4
              refine ⟨ρ4, σ2d, S3, rel4.step e4 r4, ?_⟩
              cases hE : E σ2d S3 with
              | bad => rw [hE] at o4; exact o4.elim
              | ex c fs S5 => rw [hE] at o4; exact o4.elim
              | ok y S5 =>
                rw [hE] at o4
                intro v H5 ρ5 e5 r5 rv5
                have o5 := Out.mono e5 o4
                dsimp only at o5
                split at o5
                · rename_i acc hs
                  have eA := e2.trans (e3.trans (e4.trans e5))
                  obtain ⟨vs5, h5, rr⟩ := r5.obj _ _ _ (eA.get aD) hs
                  by_cases hl : acc.length < line
                  · rw [if_pos hl] at o5
                    have mu : Mut (H5 Dl) := by rw [h5]; trivial
                    have ew : Ext (gx X cl) ρ5 ρ5 H5 (upd H5 Dl (.lst (vs5 ++ [v]))) := Ext.write mu
                    refine ⟨vs5, h5, by rw [← rr.length]; exact line_lt hl, ρ5, _, eA.trans ew, ?_, Out.mono ew o5⟩
                    exact ((rel2.step e3 r3).step (e4.trans e5) r5).step ew (r5.write (eA.get aD) mu ⟨_, upd_same, (rr.append (show RVs (gx X cl) ρ5 H5 [y] [v] from ⟨v, [], rfl, rv5, rfl⟩)).ext ew⟩)
                  · rw [if_neg hl] at o5; exact o5.elim
                · exact o5.elim
/-- in the block of a comprehension -/
def InBlk (X : Cx) (scope : Scope) (cl : Cl) (P : Cx → Prop) : Prop := ∀ (s : Shared) (H : Hp) (C : Addr) (cls : List (Str × Addr)) (fp : List Addr), P (X.blk s H scope (compEnvC scope cls C X.env) fp)
theorem f_lc {fuel : Nat} {elt tg iter : Expr} {ifs : List Expr} {scope : Scope} {own : List (Str × Nat)} {pos : Pos} {I : Sl → Sto → R Src} {t : Tgt} {g : TG} {T : Sl → Sto → R Bool} {E : Sl → Sto → R D} (hc : X.calm = true) (hN : X.N.Nodup) (hi : PI X tg iter (tI (gx X cl) W I)) (ok : BlkOk X.N X.env.scope scope own)
    (hg : ∀ (s : Shared) (H : Hp) (C : Addr) (cls : List (Str × Addr)) (fp : List Addr), PG (X.blk s H scope (compEnvC scope cls C X.env) fp) tg g) (hgo : TgOk (gx X cl) t (own.map (·.2)) g)
    (ht : ∀ (s : Shared) (H : Hp) (C : Addr) (cls : List (Str × Addr)) (fp : List Addr), PTs (X.blk s H scope (compEnvC scope cls C X.env) fp) ifs (tT (gx X cl) W0 T))
    (he : ∀ (s : Shared) (H : Hp) (C : Addr) (cls : List (Str × Addr)) (fp : List Addr), PE (X.blk s H scope (compEnvC scope cls C X.env) fp) elt (tF (gx X cl) W0 E)) (hs : ∀ x, foldedSetIterable iter X.env x = pure x := by intro _; rfl) :
    PE X (.ListComp elt [⟨tg, iter, ifs, 0⟩] scope pos) (tF (gx X cl) W (FLc fuel I t T E (own.map (·.2)))) :=
  PE.imp (pe_lc hc hN hi ok hg ht he hs) (lc_of hgo)
theorem s_setLc {fuel i : Nat} {y : Str} {py spos : Pos} {elt tg iter : Expr} {ifs : List Expr} {scope : Scope} {own : List (Str × Nat)} {pos : Pos} {I : Sl → Sto → R Src} {t : Tgt} {g : TG} {T : Sl → Sto → R Bool} {E : Sl → Sto → R D} (p1 : PS X (.Assign [.Name y py] (.ListComp elt [⟨tg, iter, ifs, 0⟩] scope pos) spos) (tAsg (tLc (tI (gx X cl) W I) g (tT (gx X cl) W0 T) (tF (gx X cl) W0 E) (own.map (·.2))) (gName i)))
    (hgo : TgOk (gx X cl) t (own.map (·.2)) g) : PS X (.Assign [.Name y py] (.ListComp elt [⟨tg, iter, ifs, 0⟩] scope pos) spos) (tS (gx X cl) W (SAsg (FLc fuel I t T E (own.map (·.2))) (gN i))) :=
  PS.imp p1 fun D σ H ⟨ρ, σd, S, rel, o⟩ => lc_of (fuel := fuel) (t := t) (T := T) (E := E) (I := I) hgo σ H _ (tG_toS rel o fun a S1 b H1 ρ1 e1 rel1 t1 o1 => OutS.now o1 (rel1.set t1 i))
theorem ts_nil : PTs X [] (tT (gx X cl) W TYes) := PTs.imp pts_nil fun σ H Q ⟨ρ, σd, S, rel, o⟩ => Out.ret o rel.hp rfl
theorem ts_one {c : Expr} {T : Sl → Sto → R Bool} (h : PT X c (tT (gx X cl) W T)) : PTs X [c] (tT (gx X cl) W T) := pts_one h

/-! ### dict comprehensions -/
def dcL (src : Src) (t : Tgt) (T : Sl → Sto → R Bool) (Ek E : Sl → Sto → R D) (n : Nat) : Nat → Nat → Sl → Sto → R D
  | 0, _, _, _ => .bad
  | k + 1, i, σ, S => match nextI S i src with
    | none => .bad
    | some none => .ok (.loc n) S
    | some (some d) => match t.put d σ with
      | none => .bad
      | some σ2 => match T σ2 S with
        | .ok false S1 => dcL src t T Ek E n k (i + 1) σ S1
        | .ok true S1 => match Ek σ2 S1 with
          | .ok x S2 => match E σ2 S2 with
            | .ok y S3 => match putAt (.loc n) x y S3 with
              | some S4 => dcL src t T Ek E n k (i + 1) σ S4
              | none => .bad
            | _ => .bad
          | _ => .bad
        | _ => .bad
def FDc (fuel : Nat) (I : Sl → Sto → R Src) (t : Tgt) (T : Sl → Sto → R Bool) (Ek E : Sl → Sto → R D) (vs : List Nat) : Sl → Sto → R D := fun σ S => (I σ S).to fun src S1 =>
  dcL src t T Ek E S1.length fuel 0 (wipeD σ vs) (S1 ++ [.dct false []])
theorem putAt_at {n : Nat} {x y : D} {S S' : Sto} (h : putAt (.loc n) x y S = some S') : ∃ kvs k, S[n]? = some (.dct false kvs) ∧ keyD x = some k ∧ kvs.length < line ∧ ndK kvs = true ∧ S' = S.set n (.dct false (putD kvs k y)) := by
  unfold putAt at h
  dsimp only at h
  cases h1 : dctAt S (.loc n) with
  | none => rw [h1] at h; cases h
  | some p =>
    obtain ⟨lk, kvs⟩ := p
    cases lk with
    | true => rw [h1] at h; cases h
    | false =>
      cases h2 : keyD x with
      | none => rw [h1, h2] at h; cases h
      | some k =>
        rw [h1, h2] at h
        dsimp only at h
        by_cases hl : kvs.length < line ∧ ndK kvs = true
        · rw [if_pos hl] at h
          cases h
          refine ⟨kvs, k, ?_, rfl, hl.1, hl.2, rfl⟩
          unfold dctAt at h1
          dsimp only at h1
          split at h1
          · cases h1; assumption
          · cases h1
        · rw [if_neg hl] at h; cases h
theorem dc_of {fuel : Nat} {I : Sl → Sto → R Src} {t : Tgt} {g : TG} {T : Sl → Sto → R Bool} {Ek E : Sl → Sto → R D} {vs : List Nat} (hg : TgOk (gx X cl) t vs g) : ∀ σ H Q, tF (gx X cl) W (FDc fuel I t T Ek E vs) σ H Q →
    tDc (tI (gx X cl) W I) g (tT (gx X cl) W0 T) (tF (gx X cl) W0 Ek) (tF (gx X cl) W0 E) vs σ H Q := fun σ H Q ⟨ρ, σd, S, rel, o⟩ => by
  refine tG_to rel o fun src S1 J H1 ρ1 e1 rel1 t1 o1 => fun Dl hD => ?_
  have eD : Ext (gx X cl) ρ1 (ρ1 ++ [Dl]) H1 (upd H1 Dl (.dK [])) := (Ext.new hD).more
  have rD : RelH (gx X cl) (ρ1 ++ [Dl]) (upd H1 Dl (.dK [])) (S1 ++ [.dct false []]) := rel1.hp.new hD ⟨[], upd_same, rfl⟩
  have aD : (ρ1 ++ [Dl])[S1.length]? = some Dl := by rw [← rel1.hp.len, List.getElem?_append_right (Nat.le_refl _)]; simp
  have relD := (rel1.step eD rD).wipe vs
  refine ⟨fun i m H => ∃ ρ S, Ext (gx X cl) (ρ1 ++ [Dl]) ρ (upd H1 Dl (.dK [])) H ∧ Rel (gx X cl) ρ (wipe σ vs) (wipeD σd vs) H S ∧ Out (gx X cl) (RV (gx X cl)) W ρ σ H (dcL src t T Ek E S1.length m i (wipeD σd vs) S) Q, ⟨fuel, _, _, Ext.refl, relD, Out.mono eD o1⟩, ?_⟩
  rintro i m H2 ⟨ρ2, S2, e2, rel2, o2⟩
  cases m with
  | zero => exact o2.elim
  | succ m =>
    unfold dcL at o2
    cases hn : nextI S2 i src with
    | none => rw [hn] at o2; exact o2.elim
    | some od =>
      rw [hn] at o2
      cases od with
      | none => exact .inl ⟨t1.stop ρ2 H2 S2 i (eD.trans e2) rel2.hp hn, Out.ret o2 rel2.hp ⟨Dl, rfl, e2.get aD⟩⟩
      | some d =>
        dsimp only at o2
        obtain ⟨g1, g2⟩ := t1.go ρ2 H2 S2 i d (eD.trans e2) rel2.hp hn
        refine .inr ⟨g1, fun H => ∃ ρ S, Ext (gx X cl) (ρ1 ++ [Dl]) ρ (upd H1 Dl (.dK [])) H ∧ Rel (gx X cl) ρ (wipe σ vs) (wipeD σd vs) H S ∧ Out (gx X cl) (RV (gx X cl)) W ρ σ H (dcL src t T Ek E S1.length m (i + 1) (wipeD σd vs) S) Q, fun H' h => ⟨m, Nat.lt_succ_self m, h⟩, fun x H3 y => ?_⟩
        obtain ⟨e3, r3, rv⟩ := g2 x H3 y
        have o3 := Out.mono e3 o2
        cases hp : t.put d (wipeD σd vs) with
        | none => rw [hp] at o3; exact o3.elim
        | some σ2d =>
          rw [hp] at o3
          dsimp only at o3
          refine hg.run ρ2 (wipe σ vs) (wipeD σd vs) H3 S2 d x _ σ2d (rel2.step e3 r3) rv hp fun σ4 rel4 hw => ⟨hw.trans wipe_idem, ?_⟩
          cases hT : T σ2d S2 with
          | bad => rw [hT] at o3; exact o3.elim
          | ex c fs S3 => rw [hT] at o3; exact o3.elim
          | ok b S3 =>
            rw [hT] at o3
            refine ⟨ρ2, σ2d, S2, rel4, ?_⟩
            rw [hT]
            intro b' H4 ρ4 e4 r4 eb
            subst eb
            have o4 := Out.mono e4 o3
            cases b with
            | false =>
              rw [if_neg Bool.false_ne_true]
              exact ⟨ρ4, S3, e2.trans (e3.trans e4), (rel2.step e3 r3).step e4 r4, o4⟩
            | true =>
              rw [if_pos rfl]
              dsimp only at o4
              refine ⟨ρ4, σ2d, S3, rel4.step e4 r4, ?_⟩
              cases hK : Ek σ2d S3 with
              | bad => rw [hK] at o4; exact o4.elim
              | ex c fs S5 => rw [hK] at o4; exact o4.elim
              | ok kd S5 =>
                rw [hK] at o4
                intro u H5 ρ5 e5 r5 rv5
                have o5 := Out.mono e5 o4
                dsimp only at o5
                refine ⟨ρ5, σ2d, S5, (rel4.step e4 r4).step e5 r5, ?_⟩
                cases hE : E σ2d S5 with
                | bad => rw [hE] at o5; exact o5.elim
                | ex c fs S6 => rw [hE] at o5; exact o5.elim
                | ok y S6 =>
                  rw [hE] at o5
                  intro v H6 ρ6 e6 r6 rv6
                  have o6 := Out.mono e6 o5
                  dsimp only at o6
                  cases hpa : putAt (.loc S1.length) kd y S6 with
                  | none => rw [hpa] at o6; exact o6.elim
                  | some S7 =>
                    rw [hpa] at o6
                    obtain ⟨kvs, k, hs, hk, hl, hnd, rfl⟩ := putAt_at hpa
                    have eA := e2.trans (e3.trans (e4.trans (e5.trans e6)))
                    obtain ⟨ks, h6, rr⟩ := r6.obj _ _ _ (eA.get aD) hs
                    have mu : Mut (H6 Dl) := by rw [h6]; trivial
                    have ew : Ext (gx X cl) ρ6 ρ6 H6 (upd H6 Dl (.dK (putK ks k v))) := Ext.write mu
                    refine ⟨ks, k, keyD_rv hk rv5, h6, by rw [← rr.length]; exact line_lt hl, ρ6, _, eA.trans ew, ?_, Out.mono ew o6⟩
                    exact ((rel2.step e3 r3).step (e4.trans (e5.trans e6)) r6).step ew (r6.write (eA.get aD) mu ⟨_, upd_same, (putD_rv rv6 rr (ndK_of hnd)).ext ew⟩)
theorem f_dc {fuel : Nat} {kx vx tg iter : Expr} {ifs : List Expr} {scope : Scope} {own : List (Str × Nat)} {pos : Pos} {I : Sl → Sto → R Src} {t : Tgt} {g : TG} {T : Sl → Sto → R Bool} {Ek E : Sl → Sto → R D} (hc : X.calm = true) (hN : X.N.Nodup) (hi : PI X tg iter (tI (gx X cl) W I)) (ok : BlkOk X.N X.env.scope scope own)
    (hg : ∀ (s : Shared) (H : Hp) (C : Addr) (cls : List (Str × Addr)) (fp : List Addr), PG (X.blk s H scope (compEnvC scope cls C X.env) fp) tg g) (hgo : TgOk (gx X cl) t (own.map (·.2)) g)
    (ht : ∀ (s : Shared) (H : Hp) (C : Addr) (cls : List (Str × Addr)) (fp : List Addr), PTs (X.blk s H scope (compEnvC scope cls C X.env) fp) ifs (tT (gx X cl) W0 T))
    (hk : ∀ (s : Shared) (H : Hp) (C : Addr) (cls : List (Str × Addr)) (fp : List Addr), PE (X.blk s H scope (compEnvC scope cls C X.env) fp) kx (tF (gx X cl) W0 Ek))
    (he : ∀ (s : Shared) (H : Hp) (C : Addr) (cls : List (Str × Addr)) (fp : List Addr), PE (X.blk s H scope (compEnvC scope cls C X.env) fp) vx (tF (gx X cl) W0 E)) (hs : ∀ x, foldedSetIterable iter X.env x = pure x := by intro _; rfl) :
    PE X (.DictComp kx vx [⟨tg, iter, ifs, 0⟩] scope pos) (tF (gx X cl) W (FDc fuel I t T Ek E (own.map (·.2)))) :=
  PE.imp (pe_dc hc hN hi ok hg ht hk he hs) (dc_of hgo)
end
end Mi
set_option Elab.async false
set_option autoImplicit false
set_option linter.all false
set_option maxRecDepth 100000
set_option maxHeartbeats 4000000
namespace Mi
open PySem L2

/-! ### instances -/
def insAt (S : Sto) (c : Nat) : D → Option (List D)
  | .loc n => match S[n]? with
    | some (.ins c' ds) => if c' = c then some ds else none
    | _ => none
  | _ => none
section
variable {G : Ct} {ρ : List Addr} {H : Hp} {S : Sto}
theorem ins_of (r : RelH G ρ H S) {c : Nat} {d : D} {v : V} {ds : List D} (hv : RV G ρ H d v) (h : insAt S c d = some ds) : ∃ a n dx vs, d = .loc n ∧ S[n]? = some (.ins c ds) ∧ ρ[n]? = some a ∧ v = .ref a ∧ H a = some (.ins (G.c.cl c) dx ((G.c.fn c).zip vs)) ∧ RVs G ρ H ds vs ∧ ds.length ≤ (G.c.fn c).length := by
  cases d <;> first | cases h | skip
  rename_i n
  unfold insAt at h
  dsimp only at h
  split at h
  · rename_i c' ds' e
    by_cases hc : c' = c
    · rw [if_pos hc] at h
      cases h
      subst hc
      obtain ⟨a, ev, ha, dx, vs, h1, h2, h3⟩ := r.at e hv
      exact ⟨a, n, dx, vs, rfl, e, ha, ev, h1, h2, h3⟩
    · rw [if_neg hc] at h; cases h
  · cases h
end
theorem zip_none {m : Str} : ∀ {fn : List Str} {vs : List V}, m ∉ fn → (fn.zip vs).lookup m = none
  | [], _, _ => rfl
  | _ :: _, [], _ => rfl
  | f :: fn, v :: vs, h => by
    rw [List.mem_cons, not_or] at h
    show (match m == f with
      | true => some v
      | false => (fn.zip vs).lookup m) = none
    rw [show (m == f) = false from beq_eq_false_iff_ne.mpr h.1]
    exact zip_none h.2
theorem zip_at {m : Str} : ∀ {fn : List Str} {vs : List V} {i : Nat} {v : V}, fn.Nodup → fn[i]? = some m → vs[i]? = some v → (fn.zip vs).lookup m = some v
  | [], _, _, _, _, h, _ => by simp at h
  | _ :: _, [], _, _, _, _, h => by simp at h
  | f :: fn, v :: vs, 0, _, _, h1, h2 => by
    simp at h1 h2; subst h1; subst h2
    show (match f == f with
      | true => some v
      | false => (fn.zip vs).lookup f) = some v
    rw [show (f == f) = true from beq_self_eq_true f]
  | f :: fn, v :: vs, i + 1, _, nd, h1, h2 => by
    have hm : m ∈ fn := List.mem_of_getElem? (by simpa using h1)
    have ne : m ≠ f := fun z => (List.nodup_cons.mp nd).1 (z ▸ hm)
    show (match m == f with
      | true => some v
      | false => (fn.zip vs).lookup m) = _
    rw [show (m == f) = false from beq_eq_false_iff_ne.mpr ne]
    exact zip_at (i := i) (List.nodup_cons.mp nd).2 (by simpa using h1) (by simpa using h2)
/-- the attributes with the i-th stored -/
def fput (i : Nat) (d : D) (ds : List D) : Option (List D) := if i < ds.length then some (ds.set i d) else if i = ds.length then some (ds ++ [d]) else none
theorem zip_put {v : V} : ∀ {fn : List Str} {vs : List V} {i : Nat} {m : Str}, fn.Nodup → fn[i]? = some m → i ≤ vs.length → putF m v (fn.zip vs) = fn.zip (if i < vs.length then vs.set i v else vs ++ [v])
  | [], _, _, _, _, h, _ => by simp at h
  | f :: fn, [], i, m, nd, h, hl => by
    have e : i = 0 := by simpa using hl
    subst e
    simp at h; subst h
    rw [if_neg (by simp), List.zip_nil_right]
    show [(f, v)] = (f, v) :: fn.zip []
    rw [List.zip_nil_right]
  | f :: fn, w :: vs, 0, m, nd, h, _ => by
    simp at h; subst h
    rw [if_pos (by simp)]
    show (if f = f then (f, v) :: fn.zip vs else _) = _
    rw [if_pos rfl]
    rfl
  | f :: fn, w :: vs, i + 1, m, nd, h, hl => by
    have hm : m ∈ fn := List.mem_of_getElem? (by simpa using h)
    have ne : ¬ f = m := fun z => (List.nodup_cons.mp nd).1 (z ▸ hm)
    show (if f = m then _ else (f, w) :: putF m v (fn.zip vs)) = _
    rw [if_neg ne, zip_put (i := i) (List.nodup_cons.mp nd).2 (by simpa using h) (by simpa using hl)]
    by_cases hi : i < vs.length
    · rw [if_pos hi, if_pos (by simpa using hi)]; rfl
    · rw [if_neg hi, if_neg (by simpa using hi)]; rfl
/-- what is known of an own class with its attributes -/
structure ClsF (K : PySem.W.Frag) (cl : Cl) (c : Nat) : Prop where
  k : ClsK K (cl.cl c)
  nd : (cl.fn c).Nodup
  na : ∀ f ∈ cl.fn c, NoAttr K (cl.cl c) f
  few : (cl.fn c).length < 1000
section
variable {X : Cx} {cl : Cl} {W : WX} {o e : Expr} {es : List Expr} {f m x : Str} {pos pos' apos p : Pos} {A B : Sl → Sto → R D} {As : Sl → Sto → R (List D)} {c i : Nat}
def FFld (c i : Nat) (A : Sl → Sto → R D) : Sl → Sto → R D := fun σ S => (A σ S).to fun a S1 => match insAt S1 c a with
  | some ds => match ds[i]? with
    | some d => .ok d S1
    | none => .bad
  | none => .bad
theorem f_fld (C : ClsF X.K cl c) (ho : PE X o (tF (gx X cl) W A)) (hf : (cl.fn c)[i]? = some f) (hb : attributeBase o f X.env (eval o X.env) = eval o X.env := by rfl) : PE X (.Attribute o f pos) (tF (gx X cl) W (FFld c i A)) := by
  refine PE.imp (pe_fld ho hb) fun σ H Q ⟨ρ, σd, S, rel, o⟩ => tG_to rel o fun a S1 v H1 ρ1 e1 rel1 t1 o1 => ?_
  cases h : insAt S1 c a with
  | none => rw [h] at o1; exact o1.elim
  | some ds =>
    rw [h] at o1
    dsimp only at o1
    cases hd : ds[i]? with
    | none => rw [hd] at o1; exact o1.elim
    | some d =>
      rw [hd] at o1
      obtain ⟨b, n, dx, vs, rfl, _, _, rfl, h1, h2, _⟩ := ins_of rel1.hp t1 h
      obtain ⟨w, hw, rw'⟩ := h2.get hd
      exact ⟨b, _, dx, _, w, rfl, h1, C.k.cl, C.na f (List.mem_of_getElem? hf), zip_at C.nd hf hw, Out.ret o1 rel1.hp rw'⟩
def SFld (c i : Nat) (A B : Sl → Sto → R D) : Sl → Sto → RS := fun σ S => toS σ (B σ S) fun b S1 => toS σ (A σ S1) fun a S2 => match a with
  | .loc n => match insAt S2 c (.loc n) with
    | some ds => match fput i b ds with
      | some ds' => .ok .nx σ (S2.set n (.ins c ds'))
      | none => .bad
    | none => .bad
  | _ => .bad
theorem s_fld {value : Expr} (C : ClsF X.K cl c) (ho : PE X o (tF (gx X cl) W A)) (hv : PE X value (tF (gx X cl) W B)) (hf : (cl.fn c)[i]? = some f) (hs : swapsWith value (some (.Attribute o f pos')) pos.line X.env = pure false := by rfl) :
    PS X (.Assign [.Attribute o f pos'] value pos) (tS (gx X cl) W (SFld c i A B)) := by
  refine PS.imp (ps_fld ho hv hs) fun D σ H ⟨ρ, σd, S, rel, o⟩ => tG_toS rel o fun b S1 y H1 ρ1 e1 rel1 t1 o1 => tG_toS rel1 o1 fun a S2 v H2 ρ2 e2 rel2 t2 o2 => ?_
  cases a <;> first | exact o2.elim | skip
  rename_i n
  dsimp only at o2
  cases h : insAt S2 c (.loc n) with
  | none => rw [h] at o2; exact o2.elim
  | some ds =>
    rw [h] at o2
    dsimp only at o2
    cases hp : fput i b ds with
    | none => rw [hp] at o2; exact o2.elim
    | some ds' =>
      rw [hp] at o2
      obtain ⟨a, n', dx, vs, en, hs, hn, rfl, h1, h2, h3⟩ := ins_of rel2.hp t2 h
      cases en
      have hlt : ((gx X cl).c.fn c).length < 1000 := C.few
      have hz : (((gx X cl).c.fn c).zip vs).length < 1000 := by rw [List.length_zip]; omega
      have mu : Mut (H2 a) := by rw [h1]; trivial
      have hil : i < ((gx X cl).c.fn c).length := (List.getElem?_eq_some_iff.mp hf).1
      have hi : i ≤ vs.length := by
        unfold fput at hp
        rw [h2.length] at hp
        by_cases q : i < vs.length
        · omega
        · rw [if_neg q] at hp
          by_cases q2 : i = vs.length
          · omega
          · rw [if_neg q2] at hp; cases hp
      have ez : putF f y (((gx X cl).c.fn c).zip vs) = ((gx X cl).c.fn c).zip (if i < vs.length then vs.set i y else vs ++ [y]) := zip_put C.nd hf hi
      have ew : Ext (gx X cl) ρ2 ρ2 H2 (upd H2 a (.ins (cl.cl c) dx (putF f y (((gx X cl).c.fn c).zip vs)))) := Ext.write mu
      refine ⟨a, _, dx, _, rfl, h1, C.k.cl, C.na f (List.mem_of_getElem? hf), hz, ?_⟩
      refine OutS.now (OutS.mono ew o2) (rel2.step ew (rel2.hp.write hn mu ⟨dx, (if i < vs.length then vs.set i y else vs ++ [y]), ?_, ?_, ?_⟩))
      · rw [← ez]; exact upd_same
      · unfold fput at hp
        have t1' := t1.ext e2
        rw [h2.length] at hp
        by_cases q : i < vs.length
        · rw [if_pos q] at hp
          cases hp
          rw [if_pos q]
          exact (h2.set t1' i).ext ew
        · rw [if_neg q] at hp
          by_cases q2 : i = vs.length
          · rw [if_pos q2] at hp
            cases hp
            rw [if_neg q]
            exact (h2.append (show RVs (gx X cl) ρ2 H2 [b] [y] from ⟨y, [], rfl, t1', rfl⟩)).ext ew
          · rw [if_neg q2] at hp; cases hp
      · unfold fput at hp
        by_cases q : i < ds.length
        · rw [if_pos q] at hp
          cases hp
          rw [List.length_set]; exact h3
        · rw [if_neg q] at hp
          by_cases q2 : i = ds.length
          · rw [if_pos q2] at hp
            cases hp
            rw [List.length_append, List.length_singleton]
            omega
          · rw [if_neg q2] at hp; cases hp

/-! ### methods -/
def FMeth (c : Nat) (m : DN) (A : Sl → Sto → R D) (As : Sl → Sto → R (List D)) : Sl → Sto → R D := fun σ S => (A σ S).to fun a S1 => match insAt S1 c a with
  | some _ => (As σ S1).to fun ds S2 => m (a :: ds) S2
  | none => .bad
theorem f_meth {k : Nat} {g : Addr} {mm : DN} {pl : Sem Bool} (C : ClsF X.K cl c) (F : FnR X.prog X.w X.K X.mg X.base (L2.CX X.prog X.w) k g (spF (gx X cl) mm)) (hr : Room k X.A) (tk : Takes X W) (hm : Meth X.K (cl.cl c) m g) (hnf : m ∉ cl.fn c)
    (ho : PE X o (tF (gx X cl) W A)) (ha : PA X (e :: es) (tA (gx X cl) W As))
    (hst : starEach (e :: es) X.env = (false, eval e X.env) :: starEach es X.env := by rfl) (hpl : (backTo pos (starEach es X.env)).any (·.1) = false := by rfl)
    (ht : eval (.Call (.Attribute o m apos) (e :: es) [] pos) X.env = (do
      let ov ← eval o X.env
      standAt apos.atName
      let (f, first) ← holding [ov] (getMethod ov m pl)
      callWith pos f first (backTo pos (starEach (e :: es) X.env)) (backToKw pos (keywordEach [] X.env))) := by rfl) :
    PE X (.Call (.Attribute o m apos) (e :: es) [] pos) (tF (gx X cl) W (FMeth c mm A As)) := by
  refine ⟨fun pins s σ H Q I ⟨ρ, σd, S, rel, o⟩ => ?_⟩
  refine PySem.W.methodCall_KW (pl := pl) (thn (ho.run pins s σ H (fun x H1 => ∃ a dx fs ρ1 S1 d, x = .ref a ∧ H1 a = some (.ins (cl.cl c) dx fs) ∧ fs.lookup m = none ∧ Rel (gx X cl) ρ1 σ σd H1 S1 ∧ RV (gx X cl) ρ1 H1 d x ∧ Out (gx X cl) (RV (gx X cl)) W ρ1 σ H1 ((As σd S1).to fun ds S2 => mm (d :: ds) S2) Q) I (tG_to rel o fun a S1 v H1 ρ1 e1 rel1 t1 o1 => ?_)) fun u s1 ⟨x, H1, I1, rx, a, dx, fs, ρ1, S1, d, ex, ea, l, rel1, rd, o1⟩ => ?_) ht
  · cases h : insAt S1 c a with
    | none => rw [h] at o1; exact o1.elim
    | some ds =>
      rw [h] at o1
      obtain ⟨b, n, dx, vs, rfl, _, _, rfl, h1, h2, _⟩ := ins_of rel1.hp t1 h
      exact ⟨b, dx, _, ρ1, S1, _, rfl, h1, zip_none hnf, rel1, t1, o1⟩
  · subst ex
    obtain rfl : u = Value.ref a := rx
    refine getmeth_ok I1 ea C.k.cl hm l ?_
    refine PySem.W.callWith_K (first := [.ref a]) (h₀ := X.base) I.ok.mod.kin hm.kp (thn (ha.run pos pins s1 σ H1 (fun vs H2 => spF (gx X cl) mm (.ref a :: vs) H2 Q (WE W σ)) I1 (tG_to rel1 o1 fun ds S2 vs H2 ρ2 e2 rel2 t2 o2 => ⟨ρ2, d :: ds, S2, rel2.hp, ⟨_, _, rfl, rd.ext e2, t2⟩, out_we o2⟩)) fun us s2 ⟨vs, H2, I2, r, q2⟩ => ⟨I2.kIn, ?_⟩) hst hpl
    exact run_R (us := .ref a :: us) (vs := .ref a :: vs) F hr tk I2 (.cons rfl r) q2
def FMeth0 (c : Nat) (m : DN) (A : Sl → Sto → R D) : Sl → Sto → R D := fun σ S => (A σ S).to fun a S1 => match insAt S1 c a with
  | some _ => m [a] S1
  | none => .bad
theorem f_meth0 {k : Nat} {g : Addr} {mm : DN} {pl : Sem Bool} (C : ClsF X.K cl c) (F : FnR X.prog X.w X.K X.mg X.base (L2.CX X.prog X.w) k g (spF (gx X cl) mm)) (hr : Room k X.A) (tk : Takes X W) (hm : Meth X.K (cl.cl c) m g) (hnf : m ∉ cl.fn c)
    (ho : PE X o (tF (gx X cl) W A))
    (ht : eval (.Call (.Attribute o m apos) [] [] pos) X.env = (do
      let ov ← eval o X.env
      standAt apos.atName
      let (f, first) ← holding [ov] (getMethod ov m pl)
      callWith pos f first (backTo pos (starEach [] X.env)) (backToKw pos (keywordEach [] X.env))) := by rfl) :
    PE X (.Call (.Attribute o m apos) [] [] pos) (tF (gx X cl) W (FMeth0 c mm A)) := by
  refine ⟨fun pins s σ H Q I ⟨ρ, σd, S, rel, o⟩ => ?_⟩
  refine PySem.W.methodCall_KW (pl := pl) (thn (ho.run pins s σ H (fun x H1 => ∃ a dx fs, x = .ref a ∧ H1 a = some (.ins (cl.cl c) dx fs) ∧ fs.lookup m = none ∧ spF (gx X cl) mm [x] H1 Q (WE W σ)) I (tG_to rel o fun a S1 v H1 ρ1 e1 rel1 t1 o1 => ?_)) fun u s1 ⟨x, H1, I1, rx, a, dx, fs, ex, ea, l, q⟩ => ?_) ht
  · cases h : insAt S1 c a with
    | none => rw [h] at o1; exact o1.elim
    | some ds =>
      rw [h] at o1
      obtain ⟨b, n, dx, vs, rfl, _, _, rfl, h1, h2, _⟩ := ins_of rel1.hp t1 h
      exact ⟨b, dx, _, rfl, h1, zip_none hnf, ρ1, [.loc n], S1, rel1.hp, ⟨_, _, rfl, t1, rfl⟩, out_we o1⟩
  · subst ex
    obtain rfl : u = Value.ref a := rx
    refine getmeth_ok I1 ea C.k.cl hm l ?_
    exact PySem.W.callWith_K0 (first := [.ref a]) I1.kIn hm.kp (run_R (us := [.ref a]) (vs := [.ref a]) F hr tk I1 (.cons rfl .nil) q)
/-- o.f, a property -/
theorem f_prop {k : Nat} {g pr : Addr} {fd : FuncData} {mm : DN} (C : ClsF X.K cl c) (hp : PropOf X.K (cl.cl c) f pr g) (F : FnOk X.prog X.w X.K X.mg X.base (L2.CX X.prog X.w) k g fd ["self"] (spF (gx X cl) mm)) (hr : Room (k + 1) X.A) (hb : Binds X.K fd ["self"] [])
    (ho : PE X o (tF (gx X cl) W A)) (hab : attributeBase o f X.env (eval o X.env) = eval o X.env := by rfl) : PE X (.Attribute o f pos) (tF (gx X cl) W (fun σ S => (A σ S).to fun a S1 => match insAt S1 c a with
      | some _ => match mm [a] S1 with
        | .ok d S2 => .ok d S2
        | _ => .bad
      | none => .bad)) := by
  refine PE.imp (pe_prop ho C.k.cl hp F hr hb .nil passL hab) fun σ H Q ⟨ρ, σd, S, rel, o⟩ => tG_to rel o fun a S1 v H1 ρ1 e1 rel1 t1 o1 => ?_
  cases h : insAt S1 c a with
  | none => rw [h] at o1; exact o1.elim
  | some ds =>
    rw [h] at o1
    obtain ⟨b, n, dx, vs, rfl, _, _, rfl, h1, h2, _⟩ := ins_of rel1.hp t1 h
    refine ⟨b, dx, _, rfl, h1, ρ1, [.loc n], S1, rel1.hp, ⟨_, _, rfl, t1, rfl⟩, ?_⟩
    dsimp only at o1
    cases hm : mm [.loc n] S1 with
    | ok d S2 => rw [hm] at o1; exact o1
    | ex c fs S2 => rw [hm] at o1; exact o1.elim
    | bad => rw [hm] at o1; exact o1.elim

/-! ### new instances -/
def mNew (c : Nat) (m : DN) : DN := fun ds S => match m (.loc S.length :: ds) (S ++ [.ins c []]) with
  | .ok .non S2 => .ok (.loc S.length) S2
  | .ok _ _ => .bad
  | .ex c fs S2 => .ex c fs S2
  | .bad => .bad
theorem out_new {G : Ct} {ρ : List Addr} {σ : L2.St} {H : Hp} {S : Sto} {mm : DN} {ds : List D} {vs : List V} {Q : VK} (rel : RelH G ρ H S) (rv : RVs G ρ H ds vs) (o : Out G (RV G) W ρ σ H (mNew c mm ds S) Q) :
    ∀ x dx, H x = none → H dx = none → dx ≠ x → spF G mm (.ref x :: vs) (upd (upd H dx (.own x)) x (.ins (G.c.cl c) dx [])) (fun v H2 => v = .non ∧ Q (.ref x) H2) (WE W σ) := by
  intro x dx hx hdx hne
  have hx1 : (upd H dx (.own x)) x = none := by rw [upd_ne (Ne.symm hne)]; exact hx
  have e1 : Ext G ρ ρ H (upd H dx (.own x)) := Ext.new hdx
  have r1 : RelH G ρ (upd H dx (.own x)) S := rel.side hdx
  have e2 : Ext G ρ (ρ ++ [x]) (upd H dx (.own x)) (upd (upd H dx (.own x)) x (.ins (G.c.cl c) dx [])) := (Ext.new hx1).more
  have r2 : RelH G (ρ ++ [x]) (upd (upd H dx (.own x)) x (.ins (G.c.cl c) dx [])) (S ++ [.ins c []]) := r1.new hx1 ⟨dx, [], by rw [List.zip_nil_right]; exact upd_same, rfl, Nat.zero_le _⟩
  have ax : (ρ ++ [x])[S.length]? = some x := by rw [← rel.len, List.getElem?_append_right (Nat.le_refl _)]; simp
  refine ⟨ρ ++ [x], .loc S.length :: ds, S ++ [.ins c []], r2, ⟨_, _, rfl, ⟨x, rfl, ax⟩, rv.ext (e1.trans e2)⟩, ?_⟩
  have o' := Out.mono (e1.trans e2) o
  unfold mNew at o'
  cases hm : mm (.loc S.length :: ds) (S ++ [.ins c []]) with
  | ok d S2 =>
    rw [hm] at o'
    cases d <;> first | exact o'.elim | skip
    intro v H' ρ' e3 r3 rd
    cases rd
    exact ⟨rfl, o' (.ref x) H' ρ' e3 r3 ⟨x, rfl, e3.get ax⟩⟩
  | ex c fs S2 => rw [hm] at o'; exact o'
  | bad => rw [hm] at o'; exact o'
theorem run_new {pins : List (Addr × Obj)} {σ : L2.St} {H : Hp} {s : Shared} {k : Nat} {C g : Addr} {sp : Sp} {Q : VK} {us : List Value} {vs : List V} (M : Mk X.K C g) (F : FnR X.prog X.w X.K X.mg X.base (L2.CX X.prog X.w) k g sp) (hr : Room (k + 1) X.A) (tk : Takes X W) (I : Inv X pins σ H s) (r : Vals vs us)
    (h : ∀ x dx, H x = none → H dx = none → dx ≠ x → sp (.ref x :: vs) (upd (upd H dx (.own x)) x (.ins C dx [])) (fun v H2 => v = .non ∧ Q (.ref x) H2) (WE W σ)) :
    wpAny (model X.prog X.w) X.A (call (.ref C) us) (EP X pins σ Q) X.xe s := by
  have hq := h (s.heap.objs.size + 1) s.heap.objs.size (I.hok.fresh (Nat.le_succ _)) (I.hok.fresh (Nat.le_refl _)) (Nat.ne_of_lt (Nat.lt_succ_self _))
  have I2 := Inv.made (C := C) I
  have r2 : Vals (V.ref (s.heap.objs.size + 1) :: vs) (Value.ref (s.heap.objs.size + 1) :: us) := .cons rfl r
  refine wpAny_call (make_map (f := g) I.kIn M.makes M.init (beq_iff_eq.mp M.fn) (codeAny_mono (F _ X.stack _ _ (Value.ref (s.heap.objs.size + 1) :: us) _ _ (WE W σ) (hr.make C us []) (I2.env0.make C us []) r2 hq) fun r s' hq' => ?_))
  cases r with
  | error e => exact passAt tk σ pins _ _ e s' I2 hq'
  | ok fl =>
    cases fl with
    | ret u =>
      obtain ⟨v, H', I3, rv, ev, q3⟩ := I2.after hq'
      subst ev
      exact ⟨rv, ⟨V.ref (s.heap.objs.size + 1), H', I3, rfl, q3⟩⟩
    | next => exact False.elim hq'
    | brk => exact False.elim hq'
    | cont => exact False.elim hq'
/-- C(e, ..) -/
theorem f_new {k : Nat} {g : Addr} {mm : DN} (M : Mk X.K (cl.cl c) g) (F : FnR X.prog X.w X.K X.mg X.base (L2.CX X.prog X.w) k g (spF (gx X cl) mm)) (hr : Room (k + 1) X.A) (tk : Takes X W) (hm : X.mg x = some (.ref (cl.cl c)))
    (ha : PA X (e :: es) (tA (gx X cl) W As)) (hg : Gl X x := by rfl) (hdb : (x == ("__debug__" : Str)) = false := by decide) (he : starEach (e :: es) X.env = (false, eval e X.env) :: starEach es X.env := by rfl) (hpl : (backTo pos (starEach es X.env)).any (·.1) = false := by rfl) :
    PE X (.Call (.Name x p) (e :: es) [] pos) (tF (gx X cl) W (FB (mNew c mm) As)) := by
  refine ⟨fun pins s σ H Q I ⟨ρ, σd, S, rel, o⟩ => ?_⟩
  refine wpAny_Call_Name_kw (ld_glob I hg hm ?_ hdb)
  refine PySem.W.callWith_K (h₀ := X.base) I.ok.mod.kin M.kp (thn (ha.run pos pins s σ H (fun vs H1 => ∀ x dx, H1 x = none → H1 dx = none → dx ≠ x → spF (gx X cl) mm (.ref x :: vs) (upd (upd H1 dx (.own x)) x (.ins (cl.cl c) dx [])) (fun v H2 => v = .non ∧ Q (.ref x) H2) (WE W σ)) I
    (tG_to rel o fun ds S1 vs H1 ρ1 e1 rel1 t1 o1 => out_new rel1.hp t1 o1)) fun us s1 ⟨vs, H1, I1, r, q⟩ => ⟨I1.kIn, ?_⟩) he hpl
  exact run_new M F hr tk I1 r q
/-- cls(e, ..), cls a name of the def that holds the class -/
def FNewV (c i : Nat) (m : DN) (As : Sl → Sto → R (List D)) : Sl → Sto → R D := fun σ S => match σ[i]? with
  | some (some (.cls c')) => if c' = c then (As σ S).to (mNew c m) else .bad
  | _ => .bad
theorem f_newV {k : Nat} {g : Addr} {mm : DN} (M : Mk X.K (cl.cl c) g) (F : FnR X.prog X.w X.K X.mg X.base (L2.CX X.prog X.w) k g (spF (gx X cl) mm)) (hr : Room (k + 1) X.A) (tk : Takes X W)
    (ha : PA X (e :: es) (tA (gx X cl) W As)) (hN : X.N[i]? = some x := by rfl) (hv : Vis X.env.scope x := by first | exact Or.inl rfl | exact Or.inr (Or.inl rfl) | exact Or.inr (Or.inr rfl)) (hd : (x == ("__debug__" : Str)) = false := by decide)
    (hcd : (x == ("__classdict__" : Str)) = false := by decide) (he : starEach (e :: es) X.env = (false, eval e X.env) :: starEach es X.env := by rfl) (hpl : (backTo pos (starEach es X.env)).any (·.1) = false := by rfl) :
    PE X (.Call (.Name x p) (e :: es) [] pos) (tF (gx X cl) W (FNewV c i mm As)) := by
  refine ⟨fun pins s σ H Q I ⟨ρ, σd, S, rel, o⟩ => ?_⟩
  unfold FNewV at o
  cases e0 : σd[i]? with
  | none => rw [e0] at o; exact o.elim
  | some od =>
    rw [e0] at o
    cases od with
    | none => exact o.elim
    | some d =>
      cases d <;> first | exact o.elim | skip
      rename_i c'
      dsimp only at o
      by_cases hc : c' = c
      · rw [if_pos hc] at o
        subst hc
        obtain ⟨v, hv', rv⟩ := rel.sl i _ e0
        have rv := rv.rv (by intro _ _ z; cases z)
        cases rv
        refine wpAny_Call_Name_kw (thn ((pe_var hN hv hd hcd).run pins s σ H (fun y H1 => y = .ref (cl.cl c') ∧ H1 = H) I ⟨_, hv', rfl, rfl⟩) fun u s1 ⟨y, H1, I1, ry, ey, eH⟩ => ?_)
        subst ey; subst eH
        obtain rfl : u = Value.ref (cl.cl c') := ry
        refine PySem.W.callWith_K (h₀ := X.base) I.ok.mod.kin M.kp (thn (ha.run pos pins s1 σ H1 (fun vs H1 => ∀ x dx, H1 x = none → H1 dx = none → dx ≠ x → spF (gx X cl) mm (.ref x :: vs) (upd (upd H1 dx (.own x)) x (.ins (cl.cl c') dx [])) (fun v H2 => v = .non ∧ Q (.ref x) H2) (WE W σ)) I1
          (tG_to rel o fun ds S1 vs H1 ρ1 e1 rel1 t1 o1 => out_new rel1.hp t1 o1)) fun us s2 ⟨vs, H2, I2, r, q⟩ => ⟨I2.kIn, ?_⟩) he hpl
        exact run_new M F hr tk I2 r q
      · rw [if_neg hc] at o; exact o.elim
/-- C.m(e, ..), m a classmethod -/
theorem f_cmeth {k : Nat} {pr g : Addr} {mc : Value} {mm : DN} {E : XK} {pl : Sem Bool} (r : ClX.CRead X.K (cl.cl c) mc) (k' : ClX.CMet X.K (cl.cl c) mc m pr g) (F : FnR X.prog X.w X.K X.mg X.base (L2.CX X.prog X.w) k g (spF (gx X cl) mm)) (hr : Room k X.A) (tk : Takes X (fun cls d _ H => E cls d H)) (hm : X.mg x = some (.ref (cl.cl c)))
    (ha : PA X (e :: es) (tA (gx X cl) (fun cls d _ H => E cls d H) As)) (hg : Gl X x := by rfl) (hdb : (x == ("__debug__" : Str)) = false := by decide)
    (hst : starEach (e :: es) X.env = (false, eval e X.env) :: starEach es X.env := by rfl) (hpl : (backTo pos (starEach es X.env)).any (·.1) = false := by rfl)
    (ht : eval (.Call (.Attribute (.Name x p) m apos) (e :: es) [] pos) X.env = (do
      let ov ← eval (.Name x p) X.env
      standAt apos.atName
      let (f, first) ← holding [ov] (getMethod ov m pl)
      callWith pos f first (backTo pos (starEach (e :: es) X.env)) (backToKw pos (keywordEach [] X.env))) := by rfl) :
    PE X (.Call (.Attribute (.Name x p) m apos) (e :: es) [] pos) (tF (gx X cl) (fun cls d _ H => E cls d H) (FB (fun ds S => mm (.cls c :: ds) S) As)) := by
  refine PE.imp (ClX.pe_cmeth (pe_glob hg hm (v := .ref (cl.cl c)) rfl hdb) r k' F hr (E := E) (passes_call tk fun _ _ _ _ h => h) ha hst hpl ht) fun σ H Q ⟨ρ, σd, S, rel, o⟩ => ?_
  refine ⟨rfl, tG_to rel o fun ds S1 vs H1 ρ1 e1 rel1 t1 o1 => ⟨ρ1, .cls c :: ds, S1, rel1.hp, ⟨_, _, rfl, rfl, t1⟩, out_we o1⟩⟩
end
end Mi
set_option Elab.async false
set_option autoImplicit false
set_option linter.all false
set_option maxRecDepth 100000
set_option maxHeartbeats 4000000
namespace Mi
open PySem L2

/-! ### a class's own operators -/
/-- where the def of an operator stands -/
structure OwnDef (K : PySem.W.Frag) (C : Addr) (nm : Str) (g : Addr) : Prop where
  at_ : PySem.W.findIn K (.ref C) nm = some (some (.ref g))
  fn : PySem.W.isFn K (.ref g) = true
section
variable {X : Cx} {cl : Cl} {W : WX} {pins : List (Addr × Obj)} {σ : L2.St} {H : Hp} {s : Shared}
theorem ins_look {a C dx : Addr} {fs : List (Str × V)} (I : Inv X pins σ H s) (ea : H a = some (.ins C dx fs)) : ∃ od, PySem.W.InstAt s.heap a (PySem.W.instObj C dx) C (some od) := by
  obtain ⟨mA, O, _⟩ := ins_get I.hok ea
  obtain ⟨od, J, _⟩ := O.look
  exact ⟨od, J⟩
theorem run_R1 {k : Nat} {f : Addr} {sp : Sp} {Q : VK} {us : List Value} {vs : List V} (F : FnR X.prog X.w X.K X.mg X.base (L2.CX X.prog X.w) k f sp) (hr : Room (k + 1) X.A) (tk : Takes X W) (I : Inv X pins σ H s) (r : Vals vs us) (h : sp vs H Q (WE W σ)) :
    wpAny (model X.prog X.w) X.A.in1 (call (.ref f) us) (EP X pins σ Q) X.xe s := by
  refine wpAny_call (codeAny_mono (F X.A.in1 X.stack s H us vs Q (WE W σ) hr.in1 I.env0.in1 r h) fun r s' hq => ?_)
  cases r with
  | error e => exact passAt tk σ pins H s e s' I hq
  | ok fl =>
    cases fl with
    | ret u => exact I.after hq
    | next => exact False.elim hq
    | brk => exact False.elim hq
    | cont => exact False.elim hq
/-- an instance of the class c, the mirror mm called with it and more -/
def ownAt (c : Nat) (a : D) (S : Sto) (r : R D) : R D := match insAt S c a with
  | some _ => r
  | none => .bad
/-- the promise of a call, from an outcome -/
theorem sp_of {G : Ct} {ρ : List Addr} {S : Sto} {mm : DN} {ds : List D} {vs : List V} {Q Q' : VK} {k : D → Sto → R D} (rel : RelH G ρ H S) (rv : RVs G ρ H ds vs) (o : Out G (RV G) W ρ σ H ((mm ds S).to k) Q)
    (hq : ∀ d S1 v H1 ρ1, Ext G ρ ρ1 H H1 → RelH G ρ1 H1 S1 → RV G ρ1 H1 d v → Out G (RV G) W ρ1 σ H1 (k d S1) Q → Q' v H1) : spF G mm vs H Q' (WE W σ) :=
  ⟨ρ, ds, S, rel, rv, out_we (o.to hq)⟩
variable {a b : Expr} {A B : Sl → Sto → R D} {c : Nat} {pos : Pos} {k : Nat} {g : Addr} {mm : DN}
/-- key in x -/
def FOwnIn (c : Nat) (mm : DN) (A B : Sl → Sto → R D) : Sl → Sto → R D := F2 (fun a b S => ownAt c b S ((mm [b, a] S).to fun z S1 => match z with
  | .bl k => .ok (.bl k) S1
  | _ => .bad)) A B
theorem own_in_pc (o : OwnDef X.K (cl.cl c) "__contains__" g) (F : FnR X.prog X.w X.K X.mg X.base (L2.CX X.prog X.w) k g (spF (gx X cl) mm)) (hr : Room k X.A) (tk : Takes X W) (ha : PE X a (tF (gx X cl) W A)) (hb : PE X b (tF (gx X cl) W B)) : PC X .In a b (tF (gx X cl) W (FOwnIn c mm A B)) := by
  refine ⟨fun pins s σ H Q I ⟨ρ, σd, S, rel, oo⟩ => ?_⟩
  refine bin ha hb (R := fun x y H2 => ∃ p dx fs, y = .ref p ∧ H2 p = some (.ins (cl.cl c) dx fs) ∧ spF (gx X cl) mm [y, x] H2 (fun z H' => ∃ k, z = .bl k ∧ Q (.bl k) H') (WE W σ)) I (tG_to rel oo fun da S1 x H1 ρ1 e1 rel1 t1 o1 => tG_to rel1 o1 fun db S2 y H2 ρ2 e2 rel2 t2 o2 => ?_) fun v u s2 x y H2 I2 rx ry q => ?_
  · unfold ownAt at o2
    dsimp only at o2
    cases h : insAt S2 c db with
    | none => rw [h] at o2; exact o2.elim
    | some ds =>
      rw [h] at o2
      obtain ⟨p, n, dx, vs, rfl, _, _, rfl, h1, _⟩ := ins_of rel2.hp t2 h
      refine ⟨p, dx, _, rfl, h1, sp_of (ds := [.loc n, da]) rel2.hp ⟨_, _, rfl, t2, _, _, rfl, t1.ext e2, rfl⟩ o2 fun d S3 v H3 ρ3 e3 r3 t3 o3 => ?_⟩
      cases d <;> first | exact o3.elim | skip
      exact ⟨_, t3, Out.ret o3 r3 rfl⟩
  · obtain ⟨p, dx, fs, rfl, hp, q⟩ := q
    obtain rfl : u = Value.ref p := ry
    obtain ⟨od, J⟩ := ins_look I2 hp
    obtain ⟨m, hF⟩ := I2.fr
    refine PySem.W.in_K hF I2.ok.mod.kin J o.at_ o.fn (thn (run_R (us := [.ref p, v]) (vs := [.ref p, x]) F hr tk I2 (.cons rfl (.cons rx .nil)) q) fun w s3 ⟨z, H3, I3, rz, kb, ez, q3⟩ => ?_)
    subst ez
    cases rz
    exact wpAny_truthy_bool ⟨.bl kb, H3, I3, rfl, q3⟩
theorem f_own_in (o : OwnDef X.K (cl.cl c) "__contains__" g) (F : FnR X.prog X.w X.K X.mg X.base (L2.CX X.prog X.w) k g (spF (gx X cl) mm)) (hr : Room k X.A) (tk : Takes X W) (ha : PE X a (tF (gx X cl) W A)) (hb : PE X b (tF (gx X cl) W B)) (h1 : behindInMarks .In b = false := by rfl) :
    PE X (.Compare a [.In] [b] pos) (tF (gx X cl) W (FOwnIn c mm A B)) := pe_cmp (own_in_pc o F hr tk ha hb) h1
theorem t_own_in (o : OwnDef X.K (cl.cl c) "__contains__" g) (F : FnR X.prog X.w X.K X.mg X.base (L2.CX X.prog X.w) k g (spF (gx X cl) mm)) (hr : Room k X.A) (tk : Takes X W) (ha : PE X a (tF (gx X cl) W A)) (hb : PE X b (tF (gx X cl) W B)) (h1 : behindInMarks .In b = false := by rfl) :
    PT X (.Compare a [.In] [b] pos) (tT (gx X cl) W (TB (FOwnIn c mm A B))) := PT.imp (pt_cmp (own_in_pc o F hr tk ha hb) h1) fun σ H Q h => tb_of (fun _ q => q) h
/-- x == y of two instances of the class -/
def FOwnEq (c : Nat) (mm : DN) (A B : Sl → Sto → R D) : Sl → Sto → R D := F2 (fun a b S => ownAt c a S (ownAt c b S ((mm [a, b] S).to fun z S1 => match z with
  | .bl k => .ok (.bl k) S1
  | _ => .bad))) A B
theorem own_eq_pc (o : OwnDef X.K (cl.cl c) "__eq__" g) (F : FnR X.prog X.w X.K X.mg X.base (L2.CX X.prog X.w) k g (spF (gx X cl) mm)) (hr : Room k X.A) (tk : Takes X W) (ha : PE X a (tF (gx X cl) W A)) (hb : PE X b (tF (gx X cl) W B)) : PC X .Eq a b (tF (gx X cl) W (FOwnEq c mm A B)) := by
  refine ⟨fun pins s σ H Q I ⟨ρ, σd, S, rel, oo⟩ => ?_⟩
  refine bin ha hb (R := fun x y H2 => ∃ p dx fs p' dx' fs', x = .ref p ∧ y = .ref p' ∧ H2 p = some (.ins (cl.cl c) dx fs) ∧ H2 p' = some (.ins (cl.cl c) dx' fs') ∧ spF (gx X cl) mm [x, y] H2 (fun z H' => ∃ k, z = .bl k ∧ Q (.bl k) H') (WE W σ)) I (tG_to rel oo fun da S1 x H1 ρ1 e1 rel1 t1 o1 => tG_to rel1 o1 fun db S2 y H2 ρ2 e2 rel2 t2 o2 => ?_) fun v u s2 x y H2 I2 rx ry q => ?_
  · unfold ownAt at o2
    dsimp only at o2
    cases h : insAt S2 c da with
    | none => rw [h] at o2; exact o2.elim
    | some ds =>
      cases h' : insAt S2 c db with
      | none => rw [h, h'] at o2; exact o2.elim
      | some ds' =>
        rw [h, h'] at o2
        have t1' := t1.ext e2
        obtain ⟨p, n, dx, vs, rfl, _, _, rfl, h1, _⟩ := ins_of rel2.hp t1' h
        obtain ⟨p', n', dx', vs', rfl, _, _, rfl, h1', _⟩ := ins_of rel2.hp t2 h'
        refine ⟨p, dx, _, p', dx', _, rfl, rfl, h1, h1', sp_of (ds := [.loc n, .loc n']) rel2.hp ⟨_, _, rfl, t1', _, _, rfl, t2, rfl⟩ o2 fun d S3 v H3 ρ3 e3 r3 t3 o3 => ?_⟩
        cases d <;> first | exact o3.elim | skip
        exact ⟨_, t3, Out.ret o3 r3 rfl⟩
  · obtain ⟨p, dx, fs, p', dx', fs', rfl, rfl, hp, hp', q⟩ := q
    obtain rfl : v = Value.ref p := rx
    obtain rfl : u = Value.ref p' := ry
    obtain ⟨od, J⟩ := ins_look I2 hp
    obtain ⟨od', J'⟩ := ins_look I2 hp'
    obtain ⟨m, hF⟩ := I2.fr
    show wpAny _ _ (richCompare .Eq (.ref p) (.ref p')) _ _ _
    refine PySem.W.cmp_K (op := .Eq) (tb := .ref (cl.cl c)) hr.units0 hF I2.ok.mod.kin J J'.type (by unfold PySem.W.notFirst; rw [beq_self_eq_true]; rfl) o.at_ o.fn (thn (run_R (us := [.ref p, .ref p']) (vs := [.ref p, .ref p']) F hr tk I2 (.cons rfl (.cons rfl .nil)) q) fun w s3 ⟨z, H3, I3, rz, kb, ez, q3⟩ => ?_)
    subst ez
    cases rz
    exact (⟨.bl kb, H3, I3, rfl, q3⟩ : EP X pins σ Q (.bool kb) s3)
theorem f_own_eq (o : OwnDef X.K (cl.cl c) "__eq__" g) (F : FnR X.prog X.w X.K X.mg X.base (L2.CX X.prog X.w) k g (spF (gx X cl) mm)) (hr : Room k X.A) (tk : Takes X W) (ha : PE X a (tF (gx X cl) W A)) (hb : PE X b (tF (gx X cl) W B)) : PE X (.Compare a [.Eq] [b] pos) (tF (gx X cl) W (FOwnEq c mm A B)) := pe_cmp (own_eq_pc o F hr tk ha hb) (nomark _)
theorem t_own_eq (o : OwnDef X.K (cl.cl c) "__eq__" g) (F : FnR X.prog X.w X.K X.mg X.base (L2.CX X.prog X.w) k g (spF (gx X cl) mm)) (hr : Room k X.A) (tk : Takes X W) (ha : PE X a (tF (gx X cl) W A)) (hb : PE X b (tF (gx X cl) W B)) : PT X (.Compare a [.Eq] [b] pos) (tT (gx X cl) W (TB (FOwnEq c mm A B))) :=
  PT.imp (pt_cmp (own_eq_pc o F hr tk ha hb) (nomark _)) fun σ H Q h => tb_of (fun _ q => q) h
/-- x + y of two instances of the class -/
def FOwnAdd (c : Nat) (mm : DN) (A B : Sl → Sto → R D) : Sl → Sto → R D := F2 (fun a b S => ownAt c a S (ownAt c b S (mm [a, b] S))) A B
theorem f_own_add (o : OwnDef X.K (cl.cl c) "__add__" g) (hs : PySem.W.selfFirst X.K (cl.cl c) = true) (F : FnR X.prog X.w X.K X.mg X.base (L2.CX X.prog X.w) k g (spF (gx X cl) mm)) (hr : Room k X.A) (tk : Takes X W) (ha : PE X a (tF (gx X cl) W A)) (hb : PE X b (tF (gx X cl) W B)) : PE X (.BinOp a .Add b pos) (tF (gx X cl) W (FOwnAdd c mm A B)) := by
  refine ⟨fun pins s σ H Q I ⟨ρ, σd, S, rel, oo⟩ => ?_⟩
  refine wpAny_BinOp (binT ha hb (R := fun x y H2 => ∃ p dx fs p' dx' fs', x = .ref p ∧ y = .ref p' ∧ H2 p = some (.ins (cl.cl c) dx fs) ∧ H2 p' = some (.ins (cl.cl c) dx' fs') ∧ spF (gx X cl) mm [x, y] H2 Q (WE W σ)) I (tG_to rel oo fun da S1 x H1 ρ1 e1 rel1 t1 o1 => tG_to rel1 o1 fun db S2 y H2 ρ2 e2 rel2 t2 o2 => ?_) fun v u s2 x y H2 I2 rx ry q => ?_)
  · unfold ownAt at o2
    dsimp only at o2
    cases h : insAt S2 c da with
    | none => rw [h] at o2; exact o2.elim
    | some ds =>
      cases h' : insAt S2 c db with
      | none => rw [h, h'] at o2; exact o2.elim
      | some ds' =>
        rw [h, h'] at o2
        have t1' := t1.ext e2
        obtain ⟨p, n, dx, vs, rfl, _, _, rfl, h1, _⟩ := ins_of rel2.hp t1' h
        obtain ⟨p', n', dx', vs', rfl, _, _, rfl, h1', _⟩ := ins_of rel2.hp t2 h'
        exact ⟨p, dx, _, p', dx', _, rfl, rfl, h1, h1', ρ2, [.loc n, .loc n'], S2, rel2.hp, ⟨_, _, rfl, t1', _, _, rfl, t2, rfl⟩, out_we o2⟩
  · obtain ⟨p, dx, fs, p', dx', fs', rfl, rfl, hp, hp', q⟩ := q
    obtain rfl : v = Value.ref p := rx
    obtain rfl : u = Value.ref p' := ry
    obtain ⟨od, J⟩ := ins_look I2 hp
    obtain ⟨od', J'⟩ := ins_look I2 hp'
    obtain ⟨m, hF⟩ := I2.fr
    exact PySem.W.binop_K (op := .Add) hF I2.ok.mod.kin J J'.type hs o.at_ o.fn (thn (run_R (us := [.ref p, .ref p']) (vs := [.ref p, .ref p']) F hr tk I2 (.cons rfl (.cons rfl .nil)) q) fun w s3 ⟨z, H3, I3, rz, q3⟩ => SlX.cmpback rz ⟨z, H3, I3, rz, q3⟩)
/-- x[key] -/
def FOwnIx (c : Nat) (mm : DN) (A B : Sl → Sto → R D) : Sl → Sto → R D := F2 (fun a b S => ownAt c a S (mm [a, b] S)) A B
theorem f_own_ix (o : OwnDef X.K (cl.cl c) "__getitem__" g) (hf : PySem.W.fnIn X.K g = true) (F : FnR X.prog X.w X.K X.mg X.base (L2.CX X.prog X.w) k g (spF (gx X cl) mm)) (hr : Room (k + 1) X.A) (tk : Takes X W) (ha : PE X a (tF (gx X cl) W A)) (hb : PE X b (tF (gx X cl) W B))
    (hsl : ∀ (x : Addr) (i : Value), subscripted b true (.ref x) i = runValue (.builtin "lifetime.subscript" ⟨[.ref x, i], []⟩) := by intro _ _; with_unfolding_all rfl) : PE X (.Subscript a b pos) (tF (gx X cl) W (FOwnIx c mm A B)) := by
  refine ⟨fun pins s σ H Q I ⟨ρ, σd, S, rel, oo⟩ => ?_⟩
  refine PyProof.Rows.Subscript_ (binT ha hb (R := fun x y H2 => ∃ p dx fs, x = .ref p ∧ H2 p = some (.ins (cl.cl c) dx fs) ∧ spF (gx X cl) mm [x, y] H2 Q (WE W σ)) I (tG_to rel oo fun da S1 x H1 ρ1 e1 rel1 t1 o1 => tG_to rel1 o1 fun db S2 y H2 ρ2 e2 rel2 t2 o2 => ?_) fun v u s2 x y H2 I2 rx ry q => ?_)
  · unfold ownAt at o2
    dsimp only at o2
    cases h : insAt S2 c da with
    | none => rw [h] at o2; exact o2.elim
    | some ds =>
      rw [h] at o2
      have t1' := t1.ext e2
      obtain ⟨p, n, dx, vs, rfl, _, _, rfl, h1, _⟩ := ins_of rel2.hp t1' h
      exact ⟨p, dx, _, rfl, h1, ρ2, [.loc n, db], S2, rel2.hp, ⟨_, _, rfl, t1', _, _, rfl, t2, rfl⟩, out_we o2⟩
  · obtain ⟨p, dx, fs, rfl, hp, q⟩ := q
    obtain rfl : v = Value.ref p := rx
    obtain ⟨od, J⟩ := ins_look I2 hp
    obtain ⟨m, hF⟩ := I2.fr
    exact PySem.W.sub_K hF I2.ok.mod.kin J o.at_ hf o.fn (run_R1 (us := [.ref p, u]) (vs := [.ref p, y]) F hr tk I2 (.cons rfl (.cons ry .nil)) q) (hsl p u)
/-- len(x) -/
def fnOwnLen (c : Nat) (mm : DN) : DN := fun ds S => match ds with
  | [a] => match insAt S c a with
    | some _ => match mm [a] S with
      | .ok (.int i) S1 => if 0 ≤ i ∧ i < 2 ^ 63 then .ok (.int i) S1 else .bad
      | _ => .bad
    | none => .bad
  | _ => .bad
theorem call_ownLen (o : OwnDef X.K (cl.cl c) "__len__" g) (F : FnR X.prog X.w X.K X.mg X.base (L2.CX X.prog X.w) k g (spF (gx X cl) mm)) (hr : Room (k + 1) X.A) :
    CallR X (.builtin "len") (fun xs H Q => ∃ p dx fs, xs = [.ref p] ∧ H p = some (.ins (cl.cl c) dx fs) ∧ spF (gx X cl) mm [.ref p] H (fun z H' => ∃ i, z = .int i ∧ (0 ≤ i ∧ i < 2 ^ 63) ∧ Q (.int i) H') E0) := by
  intro pins s σ H xs us Q I r h
  obtain ⟨p, dx, fs, rfl, hp, q⟩ := h
  obtain ⟨u, rfl, ru⟩ := vals1 r
  obtain rfl : u = Value.ref p := ru
  obtain ⟨od, J⟩ := ins_look I hp
  obtain ⟨m, hF⟩ := I.fr
  refine PySem.W.len_K hF I.ok.mod.kin J o.at_ o.fn ?_
  refine wpAny_call (codeAny_mono (F X.A.in1 X.stack s H [.ref p] [.ref p] _ E0 hr.in1 I.env0.in1 (.cons rfl .nil) q) fun r s' hq => ?_)
  cases r with
  | error e => exact (passL (X := X) pins σ H s e s' I hq)
  | ok fl =>
    cases fl with
    | ret u =>
      obtain ⟨v, H', I3, rv, i, ev, hi, q3⟩ := I.after hq
      subst ev
      obtain ⟨t, rfl⟩ := rv
      exact ⟨hi, .int i, H', I3.tok _, ⟨_, rfl⟩, q3⟩
    | next => exact False.elim hq
    | brk => exact False.elim hq
    | cont => exact False.elim hq
theorem n_ownLen : Fn (gx X cl) W (fnOwnLen c mm) (fun xs H Q => ∃ p dx fs, xs = [.ref p] ∧ H p = some (.ins (cl.cl c) dx fs) ∧ spF (gx X cl) mm [.ref p] H (fun z H' => ∃ i, z = .int i ∧ (0 ≤ i ∧ i < 2 ^ 63) ∧ Q (.int i) H') E0) := by
  intro ρ σ H S ds vs Q rel r o
  match ds, r, o with
  | [], _, o => exact o.elim
  | [d], r, o =>
    obtain ⟨v, rfl, rv⟩ := rvs1 r
    unfold fnOwnLen at o
    dsimp only at o
    cases h : insAt S c d with
    | none => rw [h] at o; exact o.elim
    | some fs =>
      rw [h] at o
      obtain ⟨p, n, dx, vs, rfl, _, _, rfl, h1, _⟩ := ins_of rel rv h
      refine ⟨p, dx, _, rfl, h1, ρ, [.loc n], S, rel, ⟨_, _, rfl, rv, rfl⟩, ?_⟩
      dsimp only at o
      cases hm : mm [.loc n] S with
      | bad => rw [hm] at o; exact o.elim
      | ex c fs S1 => rw [hm] at o; exact o.elim
      | ok z S1 =>
        rw [hm] at o
        cases z <;> first | exact o.elim | skip
        rename_i i
        dsimp only at o
        by_cases hi : 0 ≤ i ∧ i < 2 ^ 63
        · rw [if_pos hi] at o
          intro w H' ρ' e' r' rz
          exact ⟨i, rz, hi, o (.int i) H' ρ' e' r' rfl⟩
        · rw [if_neg hi] at o; exact o.elim
  | _ :: _ :: _, _, o => exact o.elim
/-- x[key] = v -/
def gOwn (c : Nat) (mm : DN) (A B : Sl → Sto → R D) : TgF := fun d σ S => toS σ (A σ S) fun a S1 => toS σ (B σ S1) fun b S2 => toS σ (ownAt c a S2 (mm [a, b, d] S2)) fun _ S3 => .ok .nx σ S3
theorem nx_own {A B : Sl → Sto → R D} : NxT (gOwn c mm A B) := fun d σ S f σ1 S1 h => by
  obtain ⟨a, S2, _, h⟩ := toS_nx h
  obtain ⟨b, S3, _, h⟩ := toS_nx h
  obtain ⟨b, S4, _, h⟩ := toS_nx h
  cases h; rfl
theorem out_toS {G : Ct} {ρ : List Addr} {σd : Sl} {r : R D} {kk : D → Sto → RS} {S : Sto} {D' : Ends} (rel : Rel G ρ σ σd H S) (o : OutS G W ρ H (toS σd r kk) D') {Q1 : VK} (hq : ∀ d S1 v H1 ρ1, Ext G ρ ρ1 H H1 → Rel G ρ1 σ σd H1 S1 → RV G ρ1 H1 d v → OutS G W ρ1 H1 (kk d S1) D' → Q1 v H1) : Out G (RV G) W ρ σ H r Q1 := by
  cases r with
  | ok a S1 => exact fun b H1 ρ1 e1 r1 t => hq a S1 b H1 ρ1 e1 (rel.step e1 r1) t (OutS.mono e1 o)
  | ex c fs S1 => exact fun H1 ρ1 cls dd e1 r1 x => o σ H1 ρ1 cls dd e1 (rel.step e1 r1) x
  | bad => exact o
theorem g_own {E : XK} {o i : Expr} (od : OwnDef X.K (cl.cl c) "__setitem__" g) (hq : PySem.W.noSeq X.K (cl.cl c) = true) (F : FnR X.prog X.w X.K X.mg X.base (L2.CX X.prog X.w) k g (spF (gx X cl) mm)) (hr : Room k X.A) (tk : Takes X (fun cls d _ H => E cls d H))
    (ho : PE X o (tF (gx X cl) (fun cls d _ H => E cls d H) A)) (hi : PE X i (tF (gx X cl) (fun cls d _ H => E cls d H) B)) (ha : ∀ v, assign (.Subscript o i pos) X.env v = (do
      let ov ← holding [v] (eval o X.env)
      let iv ← holding [v, ov] (eval i X.env)
      standAt pos
      holding [v, ov, iv] (setItem ov iv v)
      release [v, ov, iv] []) := by intro _; rfl) : PG X (.Subscript o i pos) (tTg (gx X cl) (fun cls d _ H => E cls d H) (gOwn c mm A B)) := by
  have ps : PSet X (fun x y z H Q => ∃ p dx fs, x = .ref p ∧ H p = some (.ins (cl.cl c) dx fs) ∧ spF (gx X cl) mm [x, y, z] H (fun _ H' => Q H') E) := by
    intro pins s σ H x y z ov iv u Q I rx ry rz h
    obtain ⟨p, dx, fs, rfl, hp, q⟩ := h
    obtain rfl : ov = Value.ref p := rx
    obtain ⟨od', J⟩ := ins_look I hp
    obtain ⟨m, hF⟩ := I.fr
    exact PySem.W.ksp_setItem hF I.ok.mod.kin J hq od.at_ od.fn (thn (run_R (us := [.ref p, iv, u]) (vs := [.ref p, y, z]) F hr tk I (.cons rfl (.cons ry (.cons rz .nil))) q) fun w s3 ⟨z, H3, I3, rz, q3⟩ => ⟨H3, I3, q3⟩)
  refine PG.imp (pg_sub ho hi ps ha) fun v σ H Q ⟨ρ, σd, S, d, rel, rd, oo⟩ => ?_
  refine tG_toS rel oo fun da S1 x H1 ρ1 e1 rel1 t1 o1 => tG_toS rel1 o1 fun db S2 y H2 ρ2 e2 rel2 t2 o2 => ?_
  have o2' := out_toS rel2 o2 (Q1 := fun _ H' => Q σ H') fun d S1 v H1 ρ1 e1 rel1 t1 o1 => OutS.now o1 rel1
  unfold ownAt at o2'
  cases h : insAt S2 c da with
  | none => rw [h] at o2'; exact o2'.elim
  | some ds =>
    rw [h] at o2'
    have t1' := t1.ext e2
    obtain ⟨p, n, dx, vs, rfl, _, _, rfl, h1, _⟩ := ins_of rel2.hp t1' h
    exact ⟨p, dx, _, rfl, h1, ρ2, [.loc n, db, d], S2, rel2.hp, ⟨_, _, rfl, t1', _, _, rfl, t2, _, _, rfl, rd.ext (e1.trans e2), rfl⟩, out_we o2'⟩
/-- x |= e, x a name -/
def SIor (c i : Nat) (mm : DN) (A : Sl → Sto → R D) : Sl → Sto → RS := fun σ S => match σ[i]? with
  | some (some a) => toS σ (A σ S) fun b S1 => toS σ (ownAt c a S1 (mm [a, b] S1)) fun z S2 => .ok .nx (σ.set i (some z)) S2
  | _ => .bad
theorem s_ior {E : XK} {i : Nat} {x : Str} {e : Expr} {pos' : Pos} (od : OwnDef X.K (cl.cl c) "__ior__" g) (hs : PySem.W.selfFirst X.K (cl.cl c) = true) (F : FnR X.prog X.w X.K X.mg X.base (L2.CX X.prog X.w) k g (spF (gx X cl) mm)) (hr : Room k X.A) (tk : Takes X (fun cls d _ H => E cls d H)) (hN : X.N.Nodup)
    (he : PE X e (tF (gx X cl) (fun cls d _ H => E cls d H) A)) (hi : X.N[i]? = some x := by rfl) (hx : Loc X.env.scope x := by first | exact Or.inl rfl | exact Or.inr rfl)
    (hf : X.fn x = true ∨ X.env.scope.names.lookup x = some .local := by first | exact .inl rfl | exact .inr rfl) : PS X (.AugAssign (.Name x pos') .BitOr e pos) (tS (gx X cl) (fun cls d _ H => E cls d H) (SIor c i mm A)) := by
  have pp : PIp X .BitOr (fun x y H Q => ∃ p dx fs, x = .ref p ∧ H p = some (.ins (cl.cl c) dx fs) ∧ spF (gx X cl) mm [x, y] H Q E) := by
    intro pins s σ H x y v u Q I rx ry h
    obtain ⟨p, dx, fs, rfl, hp, q⟩ := h
    obtain rfl : v = Value.ref p := rx
    obtain ⟨od', J⟩ := ins_look I hp
    obtain ⟨m, hF⟩ := I.fr
    exact PySem.W.ksp_inplace (op := .BitOr) hF I.ok.mod.kin J hs od.at_ od.fn (thn (run_R (us := [.ref p, u]) (vs := [.ref p, y]) F hr tk I (.cons rfl (.cons ry .nil)) q) fun w s3 ⟨z, H3, I3, rz, q3⟩ => SlX.cmpback rz ⟨z, H3, I3, rz, q3⟩)
  refine PS.imp (ps_aug hN hi hx he pp hf) fun D σ H ⟨ρ, σd, S, rel, oo⟩ => ?_
  unfold SIor at oo
  cases e0 : σd[i]? with
  | none => rw [e0] at oo; exact oo.elim
  | some oa =>
    rw [e0] at oo
    cases oa with
    | none => exact oo.elim
    | some a =>
      obtain ⟨v, hv, rv⟩ := rel.sl i a e0
      refine ⟨v, hv, tG_toS rel oo fun b S1 y H1 ρ1 e1 rel1 t1 o1 => ?_⟩
      have o1' := out_toS rel1 o1 (Q1 := fun z H' => D.nx (σ.set i (some z)) H') fun d S1 v H1 ρ1 e1 rel1 t1 o1 => OutS.now o1 (rel1.set t1 i)
      unfold ownAt at o1'
      cases h : insAt S1 c a with
      | none => rw [h] at o1'; exact o1'.elim
      | some ds =>
        rw [h] at o1'
        have rv' := (rv.rv (by intro _ _ z; subst z; cases h)).ext e1
        obtain ⟨p, n, dx, vs, rfl, _, _, rfl, h1, _⟩ := ins_of rel1.hp rv' h
        exact ⟨p, dx, _, rfl, h1, ρ1, [.loc n, b], S1, rel1.hp, ⟨_, _, rfl, rv', _, _, rfl, t1, rfl⟩, out_we o1'⟩
end
end Mi
set_option Elab.async false
set_option autoImplicit false
set_option linter.all false
set_option maxRecDepth 100000
set_option maxHeartbeats 4000000
namespace Mi
open PySem L2

section
variable {X : Cx} {cl : Cl} {W : WX} {o e : Expr} {pos apos cpos : Pos} {A B : Sl → Sto → R D}
/-! ### all(xs), sorted(xs), list(d), dict(pairs) -/
def blsD : List D → Option (List Bool)
  | [] => some []
  | .bl b :: ds => (blsD ds).map (b :: ·)
  | _ :: _ => none
theorem blsD_of {G : Ct} {ρ : List Addr} {H : Hp} : ∀ {ds : List D} {vs : List V} {bs : List Bool}, blsD ds = some bs → RVs G ρ H ds vs → vs = bs.map V.bl
  | [], _, _, h, r => by cases h; cases r; rfl
  | d :: ds, _, _, h, r => by
    obtain ⟨v, w, rfl, h1, h2⟩ := r
    cases d <;> first | cases h | skip
    rename_i b
    unfold blsD at h
    cases e : blsD ds with
    | none => rw [e] at h; cases h
    | some ms =>
      rw [e] at h; cases h
      cases h1
      rw [blsD_of e h2, List.map_cons]
def fnAll : DN := fun ds S => match ds with
  | [.loc n] => match S[n]? with
    | some (.lst xs) => match blsD xs with
      | some bs => .ok (.bl (bs.all id)) S
      | none => .bad
    | _ => .bad
  | _ => .bad
theorem n_all : Fn (gx X cl) W fnAll (rAll X.K) := by
  intro ρ σ H S ds vs Q rel r o
  match ds, r, o with
  | [], _, o => exact o.elim
  | [d], r, o =>
    obtain ⟨v, rfl, rv⟩ := rvs1 r
    cases d <;> first | exact o.elim | skip
    rename_i n
    unfold fnAll at o
    dsimp only at o
    split at o
    · rename_i xs hx
      cases e : blsD xs with
      | none => rw [e] at o; exact o.elim
      | some ns =>
        rw [e] at o
        obtain ⟨a, ws, rfl, _, h1, h2⟩ := seqL_of rel rv hx
        refine ⟨a, ns, rfl, ?_, Out.ret o rel rfl⟩
        rw [← blsD_of e h2]
        exact SqL.of h1
    · exact o.elim
  | d :: _ :: _, _, o => cases d <;> exact o.elim
def fnAny : DN := fun ds S => match ds with
  | [.loc n] => match S[n]? with
    | some (.lst xs) => match blsD xs with
      | some bs => .ok (.bl (bs.any id)) S
      | none => .bad
    | _ => .bad
  | _ => .bad
theorem n_any : Fn (gx X cl) W fnAny (rAny X.K) := by
  intro ρ σ H S ds vs Q rel r o
  match ds, r, o with
  | [], _, o => exact o.elim
  | [d], r, o =>
    obtain ⟨v, rfl, rv⟩ := rvs1 r
    cases d <;> first | exact o.elim | skip
    rename_i n
    unfold fnAny at o
    dsimp only at o
    split at o
    · rename_i xs hx
      cases e : blsD xs with
      | none => rw [e] at o; exact o.elim
      | some ns =>
        rw [e] at o
        obtain ⟨a, ws, rfl, _, h1, h2⟩ := seqL_of rel rv hx
        refine ⟨a, ns, rfl, ?_, Out.ret o rel rfl⟩
        rw [← blsD_of e h2]
        exact SqL.of h1
    · exact o.elim
  | d :: _ :: _, _, o => cases d <;> exact o.elim
def isrt (i : Int) : List Int → List Int
  | [] => [i]
  | j :: r => if i ≤ j then i :: j :: r else j :: isrt i r
def srt : List Int → List Int
  | [] => []
  | i :: r => isrt i (srt r)
theorem isrt_perm (i : Int) : ∀ l : List Int, (isrt i l).Perm (i :: l)
  | [] => List.Perm.refl _
  | j :: r => by
    unfold isrt
    by_cases h : i ≤ j
    · rw [if_pos h]
    · rw [if_neg h]
      exact ((isrt_perm i r).cons j).trans (List.Perm.swap i j r)
theorem srt_perm : ∀ l : List Int, (srt l).Perm l
  | [] => List.Perm.refl _
  | i :: r => (isrt_perm i (srt r)).trans ((srt_perm r).cons i)
theorem isrt_pw (i : Int) : ∀ l : List Int, l.Pairwise (· ≤ ·) → (isrt i l).Pairwise (· ≤ ·)
  | [], _ => List.pairwise_singleton _ _
  | j :: r, h => by
    unfold isrt
    by_cases hij : i ≤ j
    · rw [if_pos hij]
      rw [List.pairwise_cons] at h
      refine List.pairwise_cons.mpr ⟨fun x hx => ?_, List.pairwise_cons.mpr h⟩
      rcases List.mem_cons.mp hx with rfl | hx
      · exact hij
      · exact Int.le_trans hij (h.1 x hx)
    · rw [if_neg hij]
      rw [List.pairwise_cons] at h
      refine List.pairwise_cons.mpr ⟨fun x hx => ?_, isrt_pw i r h.2⟩
      rcases List.mem_cons.mp ((isrt_perm i r).mem_iff.mp hx) with rfl | hx
      · omega
      · exact h.1 x hx
theorem srt_pw : ∀ l : List Int, (srt l).Pairwise (· ≤ ·)
  | [] => List.Pairwise.nil
  | i :: r => isrt_pw i _ (srt_pw r)
theorem srt_eq {a l : List Int} (hp : a.Perm l) (hs : a.Pairwise (· ≤ ·)) : a = srt l := PySem.W.ksm_same (hp.trans (srt_perm l).symm) hs (srt_pw l)
theorem ints_rvs {G : Ct} {ρ : List Addr} {H : Hp} : ∀ ns : List Int, RVs G ρ H (ns.map D.int) (ns.map V.int)
  | [] => rfl
  | n :: ns => ⟨_, _, rfl, rfl, ints_rvs ns⟩
theorem out_new_lst {G : Ct} {ρ : List Addr} {σ : L2.St} {H : Hp} {S : Sto} {xs : List D} {vs : List V} {Q : VK} (rel : RelH G ρ H S) (rv : RVs G ρ H xs vs) (o : Out G (RV G) W ρ σ H (.ok (.loc S.length) (S ++ [.lst xs])) Q) {p : Addr} (hp : H p = none) : Q (.ref p) (upd H p (.lst vs)) := by
  have e : Ext G ρ (ρ ++ [p]) H (upd H p (.lst vs)) := (Ext.new hp).more
  refine o _ _ (ρ ++ [p]) e (rel.new hp ⟨vs, upd_same, rv.ext e⟩) ⟨p, rfl, ?_⟩
  rw [← rel.len, List.getElem?_append_right (Nat.le_refl _)]; simp
theorem out_new_dct {G : Ct} {ρ : List Addr} {σ : L2.St} {H : Hp} {S : Sto} {xs : List (Key × D)} {vs : List (Key × V)} {Q : VK} (rel : RelH G ρ H S) (rv : RKs G ρ H xs vs) (o : Out G (RV G) W ρ σ H (.ok (.loc S.length) (S ++ [.dct false xs])) Q) {p : Addr} (hp : H p = none) : Q (.ref p) (upd H p (.dK vs)) := by
  have e : Ext G ρ (ρ ++ [p]) H (upd H p (.dK vs)) := (Ext.new hp).more
  refine o _ _ (ρ ++ [p]) e (rel.new hp ⟨vs, upd_same, rv.ext e⟩) ⟨p, rfl, ?_⟩
  rw [← rel.len, List.getElem?_append_right (Nat.le_refl _)]; simp
/-- the int keys of a dict -/
def intKs : List (Key × D) → Option (List Int)
  | [] => some []
  | (.inl i, _) :: r => (intKs r).map (i :: ·)
  | _ :: _ => none
theorem intKs_of : ∀ {kvs : List (Key × D)} {ns : List Int}, intKs kvs = some ns → kvs.map (·.1) = ns.map Sum.inl
  | [], _, h => by cases h; rfl
  | (.inl i, d) :: r, ns, h => by
    unfold intKs at h
    cases e : intKs r with
    | none => rw [e] at h; cases h
    | some ms =>
      rw [e] at h; cases h
      rw [List.map_cons, List.map_cons, intKs_of e]
  | (.inr s, d) :: r, ns, h => by cases h
def fnSorted : DN := fun ds S => match ds with
  | [.loc n] => match S[n]? with
    | some (.lst xs) => match intsD xs with
      | some ns => .ok (.loc S.length) (S ++ [.lst ((srt ns).map D.int)])
      | none => .bad
    | some (.dct _ kvs) => match intKs kvs with
      | some ns => if ns.length < 64 then .ok (.loc S.length) (S ++ [.lst ((srt ns).map D.int)]) else .bad
      | none => .bad
    | _ => .bad
  | _ => .bad
def rSorted2 (K : PySem.W.Frag) : List V → Hp → VK → Prop := fun xs H Q => rSortedI K xs H Q ∨ (∃ (a : Addr) (kvs : List (Key × V)) (ks : List Int), xs = [.ref a] ∧ Rd H a (.dK kvs) ∧ kvs.map (·.1) = ks.map Sum.inl ∧ ks.length < 64 ∧
    ∀ (ys : List Int) (p : Addr), ys.Perm ks → ys.Pairwise (· ≤ ·) → H p = none → Q (.ref p) (upd H p (.lst (ys.map V.int))))
theorem call_sorted2 (hc : X.calm = true) : CallR X (.builtin "sorted") (rSorted2 X.K) := CallR.or cr_sortedI (call_sortedDI hc)
theorem n_sorted : Fn (gx X cl) W fnSorted (rSorted2 X.K) := by
  intro ρ σ H S ds vs Q rel r o
  match ds, r, o with
  | [], _, o => exact o.elim
  | [d], r, o =>
    obtain ⟨v, rfl, rv⟩ := rvs1 r
    cases d <;> first | exact o.elim | skip
    rename_i n
    unfold fnSorted at o
    dsimp only at o
    split at o
    · rename_i xs hx
      cases e : intsD xs with
      | none => rw [e] at o; exact o.elim
      | some ns =>
        rw [e] at o
        obtain ⟨a, ws, rfl, _, h1, h2⟩ := seqL_of rel rv hx
        refine .inl ⟨a, ns, rfl, ?_, fun ns' p hp hs hn => ?_⟩
        · rw [← intsD_of e h2]
          exact SqL.of h1
        · rw [srt_eq hp hs]
          exact out_new_lst rel (ints_rvs _) o hn
    · rename_i lk kvs hx
      cases e : intKs kvs with
      | none => rw [e] at o; exact o.elim
      | some ns =>
        rw [e] at o
        dsimp only at o
        by_cases hl : ns.length < 64
        · rw [if_pos hl] at o
          obtain ⟨a, ks, n', en, _, _, rfl, hr, rk, _⟩ := dct_of (lk := lk) (kvs := kvs) rel rv (by unfold dctAt; dsimp only; rw [hx])
          refine .inr ⟨a, ks, ns, rfl, hr, ?_, hl, fun ys p hp hs hn => ?_⟩
          · rw [RKs.keys rk]; exact intKs_of e
          · rw [srt_eq hp hs]
            exact out_new_lst rel (ints_rvs _) o hn
        · rw [if_neg hl] at o; exact o.elim
    · exact o.elim
  | d :: _ :: _, _, o => cases d <;> exact o.elim
def keysD (kvs : List (Key × D)) : List D := kvs.map fun p => kD p.1
theorem keys_rvs {G : Ct} {ρ : List Addr} {H : Hp} : ∀ {ps : List (Key × D)} {ks : List (Key × V)}, RKs G ρ H ps ks → RVs G ρ H (keysD ps) (ks.map fun kv => kV kv.1)
  | [], _, h => by cases h; rfl
  | p :: ps, _, h => by
    obtain ⟨v, r, rfl, _, h2⟩ := h
    exact ⟨_, _, rfl, kD_rv _, keys_rvs h2⟩
def fnList2 : DN := fun ds S => match ds with
  | [.loc n] => match S[n]? with
    | some (.dct _ kvs) => .ok (.loc S.length) (S ++ [.lst (keysD kvs)])
    | _ => fnList ds S
  | _ => fnList ds S
def rList2 (K : PySem.W.Frag) : List V → Hp → VK → Prop := fun xs H Q => (∃ p ys, xs = [.ref p] ∧ (SqL K H p ys ∨ SqT K H p ys) ∧ ∀ l, H l = none → Q (.ref l) (upd H l (.lst ys))) ∨
  (∃ (a : Addr) (kvs : List (Key × V)), xs = [.ref a] ∧ Rd H a (.dK kvs) ∧ ∀ p, H p = none → Q (.ref p) (upd H p (.lst (kvs.map fun kv => kV kv.1))))
theorem call_list2 (hc : X.calm = true) : CallR X (.type "list") (rList2 X.K) := CallR.or call_list_of (call_listD hc)
theorem n_list2 : Fn (gx X cl) W fnList2 (rList2 X.K) := by
  intro ρ σ H S ds vs Q rel r o
  match ds, r, o with
  | [], r, o => exact .inl (n_list ρ σ H S [] vs Q rel r o)
  | [d], r, o =>
    cases d with
    | loc n =>
      unfold fnList2 at o
      dsimp only at o
      split at o
      · rename_i lk kvs hx
        obtain ⟨v, rfl, rv⟩ := rvs1 r
        obtain ⟨a, ks, n', en, _, _, rfl, hr, rk, _⟩ := dct_of (lk := lk) (kvs := kvs) rel rv (by unfold dctAt; dsimp only; rw [hx])
        exact .inr ⟨a, ks, rfl, hr, fun p hp => out_new_lst rel (keys_rvs rk) o hp⟩
      · exact .inl (n_list (W := W) ρ σ H S [.loc n] vs Q rel r o)
    | _ => exact .inl (n_list (W := W) ρ σ H S _ vs Q rel r o)
  | d :: d' :: ds, r, o =>
    refine .inl (n_list (W := W) ρ σ H S _ vs Q rel r ?_)
    cases d <;> exact o
/-- dict(pairs) -/
def pairsD : List D → Option (List (Key × D))
  | [] => some []
  | .tup [a, b] :: r => match keyD a with
    | some k => (pairsD r).map ((k, b) :: ·)
    | none => none
  | _ :: _ => none
def mergeD (kvs more : List (Key × D)) : List (Key × D) := more.foldl (fun acc kv => putD acc kv.1 kv.2) kvs
theorem pairsD_of {G : Ct} {ρ : List Addr} {H : Hp} : ∀ {ds : List D} {vs : List V} {ps : List (Key × D)}, pairsD ds = some ps → RVs G ρ H ds vs → ∃ (as : List Addr) (kvs : List (Key × V)), vs = as.map V.ref ∧ Paired (fun p (kv : Key × V) => SqT G.K H p [kV kv.1, kv.2]) as kvs ∧ RKs G ρ H ps kvs
  | [], _, _, h, r => by cases h; cases r; exact ⟨[], [], rfl, .nil, rfl⟩
  | d :: ds, _, _, h, r => by
    obtain ⟨v, w, rfl, h1, h2⟩ := r
    cases d <;> first | cases h | skip
    rename_i xs
    match xs, h, h1 with
    | [a, b], h, h1 =>
      unfold pairsD at h
      cases e : keyD a with
      | none => rw [e] at h; cases h
      | some k =>
        rw [e] at h
        dsimp only at h
        cases e2 : pairsD ds with
        | none => rw [e2] at h; cases h
        | some ps =>
          rw [e2] at h; cases h
          obtain ⟨p, vs, rfl, h3, h4⟩ := h1
          obtain ⟨x, y, rfl, h5, h6⟩ := rvs2 h4
          obtain ⟨as, kvs, rfl, h7, h8⟩ := pairsD_of e2 h2
          rw [keyD_rv e h5] at h3
          exact ⟨p :: as, (k, y) :: kvs, rfl, .cons h3 h7, _, _, rfl, h6, h8⟩
    | [], h, _ => cases h
    | [_], h, _ => cases h
    | _ :: _ :: _ :: _, h, _ => cases h
theorem nd_put {k : Key} {d : D} : ∀ {ps : List (Key × D)}, (ps.map (·.1)).Nodup → ((putD ps k d).map (·.1)).Nodup ∧ ∀ x, x ∈ (putD ps k d).map (·.1) → x = k ∨ x ∈ ps.map (·.1)
  | [], _ => ⟨by show [k].Nodup; simp, fun x h => .inl (by simpa [putD] using h)⟩
  | p :: ps, h => by
    rw [List.map_cons, List.nodup_cons] at h
    unfold putD
    by_cases e : p.1 = k
    · rw [if_pos e]
      exact ⟨by rw [List.map_cons, List.nodup_cons]; exact h, fun x hx => .inr hx⟩
    · rw [if_neg e]
      obtain ⟨h1, h2⟩ := nd_put (k := k) (d := d) h.2
      refine ⟨?_, fun x hx => ?_⟩
      · rw [List.map_cons, List.nodup_cons]
        exact ⟨fun z => (h2 _ z).elim (fun q => e q) fun q => h.1 q, h1⟩
      · rw [List.map_cons, List.mem_cons] at hx
        rcases hx with hx | hx
        · exact .inr (by rw [hx, List.map_cons]; exact List.mem_cons_self)
        · exact (h2 x hx).imp id fun q => by rw [List.map_cons]; exact List.mem_cons_of_mem _ q
theorem merge_rv {G : Ct} {ρ : List Addr} {H : Hp} : ∀ {more : List (Key × D)} {ms : List (Key × V)} {ps : List (Key × D)} {ks : List (Key × V)}, RKs G ρ H more ms → RKs G ρ H ps ks → (ps.map (·.1)).Nodup → RKs G ρ H (mergeD ps more) (mergeK ks ms)
  | [], _, _, _, h, q, _ => by cases h; exact q
  | p :: more, _, ps, ks, h, q, nd => by
    obtain ⟨v, r, rfl, h1, h2⟩ := h
    show RKs G ρ H (mergeD (putD ps p.1 p.2) more) (mergeK (putK ks p.1 v) r)
    exact merge_rv h2 (putD_rv h1 q nd) (nd_put nd).1
def fnDict : DN := fun ds S => match ds with
  | [.loc n] => match S[n]? with
    | some (.lst xs) => match pairsD xs with
      | some ps => .ok (.loc S.length) (S ++ [.dct false (mergeD [] ps)])
      | none => .bad
    | some (.dct _ kvs) => .ok (.loc S.length) (S ++ [.dct false kvs])
    | _ => .bad
  | _ => .bad
def rDict2 (K : PySem.W.Frag) : List V → Hp → VK → Prop := fun xs H Q => (∃ (a : Addr) (ps : List Addr) (kvs : List (Key × V)), xs = [.ref a] ∧ SqL K H a (ps.map V.ref) ∧ Paired (fun p kv => SqT K H p [kV kv.1, kv.2]) ps kvs ∧ ∀ p, H p = none → Q (.ref p) (upd H p (.dK (mergeK [] kvs)))) ∨
  (∃ (a : Addr) (kvs : List (Key × V)), xs = [.ref a] ∧ Rd H a (.dK kvs) ∧ ∀ p, H p = none → Q (.ref p) (upd H p (.dK kvs)))
theorem call_dict2 (hc : X.calm = true) : CallR X (.type "dict") (rDict2 X.K) := CallR.or (call_dictP hc) call_dictD
theorem n_dict : Fn (gx X cl) W fnDict (rDict2 X.K) := by
  intro ρ σ H S ds vs Q rel r o
  match ds, r, o with
  | [], _, o => exact o.elim
  | [d], r, o =>
    obtain ⟨v, rfl, rv⟩ := rvs1 r
    cases d <;> first | exact o.elim | skip
    rename_i n
    unfold fnDict at o
    dsimp only at o
    split at o
    · rename_i xs hx
      cases e : pairsD xs with
      | none => rw [e] at o; exact o.elim
      | some ps =>
        rw [e] at o
        obtain ⟨a, ws, rfl, _, h1, h2⟩ := seqL_of rel rv hx
        obtain ⟨as, kvs, rfl, h3, h4⟩ := pairsD_of e h2
        exact .inl ⟨a, as, kvs, rfl, SqL.of h1, h3, fun p hp => out_new_dct rel (merge_rv h4 (show RKs (gx X cl) ρ H [] [] from rfl) List.nodup_nil) o hp⟩
    · rename_i lk kvs hx
      obtain ⟨a, ks, n', en, _, _, rfl, hr, rk, _⟩ := dct_of (lk := lk) (kvs := kvs) rel rv (by unfold dctAt; dsimp only; rw [hx])
      exact .inr ⟨a, ks, rfl, hr, fun p hp => out_new_dct rel rk o hp⟩
    · exact o.elim
  | d :: _ :: _, _, o => cases d <;> exact o.elim

/-! ### xs[::-1], d.clear(), a dict's item as a target, a, b, c = x, y, z -/
def FRev (A : Sl → Sto → R D) : Sl → Sto → R D := fun σ S => (A σ S).to fun a S1 => match a with
  | .loc n => match S1[n]? with
    | some (.lst xs) => .ok (.loc S1.length) (S1 ++ [.lst xs.reverse])
    | _ => .bad
  | _ => .bad
theorem RVs.reverse {G : Ct} {ρ : List Addr} {H : Hp} : ∀ {ds : List D} {vs : List V}, RVs G ρ H ds vs → RVs G ρ H ds.reverse vs.reverse
  | [], _, h => by cases h; rfl
  | d :: ds, _, h => by
    obtain ⟨v, r, rfl, h1, h2⟩ := h
    rw [List.reverse_cons, List.reverse_cons]
    exact (RVs.reverse h2).append ⟨v, [], rfl, h1, rfl⟩
theorem f_rev {k : Nat} {p1 p2 p3 : Pos} (he : PE X e (tF (gx X cl) W A)) : PE X (.Subscript e (.Slice none none (some (.UnaryOp .USub (.Constant (.int 1) k p1) p2)) p3) pos) (tF (gx X cl) W (FRev A)) :=
  PE.imp (pe_revL he) fun σ H Q ⟨ρ, σd, S, rel, oo⟩ => tG_to rel oo fun a S1 v H1 ρ1 e1 rel1 t1 o1 => by
    cases a <;> first | exact o1.elim | skip
    rename_i n
    dsimp only at o1
    split at o1
    · rename_i xs hs
      obtain ⟨p, vs, ep, _, h1, h2⟩ := seqL_of rel1.hp t1 hs
      exact ⟨p, vs, ep, SqL.of h1, fun q hq => out_new_lst rel1.hp h2.reverse o1 hq⟩
    · exact o1.elim
def FClear (A : Sl → Sto → R D) : Sl → Sto → R D := fun σ S => (A σ S).to fun a S1 => match a with
  | .loc n => match S1[n]? with
    | some (.dct false _) => .ok .non (S1.set n (.dct false []))
    | _ => .bad
  | _ => .bad
theorem f_clear (ho : PE X o (tF (gx X cl) W A)) (hbase : attributeBase o "clear" X.env (eval o X.env) = eval o X.env := by rfl) (hline : (apos.endLine == cpos.line) = true := by rfl) : PE X (.Call (.Attribute o "clear" apos) [] [] cpos) (tF (gx X cl) W (FClear A)) :=
  PE.imp (pe_dclear ho hbase hline) fun σ H Q ⟨ρ, σd, S, rel, oo⟩ => tG_to rel oo fun a S1 v H1 ρ1 e1 rel1 t1 o1 => by
    cases a <;> first | exact o1.elim | skip
    rename_i n
    dsimp only at o1
    split at o1
    · rename_i kvs hs
      obtain ⟨p, ep, hn, ks, h1, h2⟩ := rel1.hp.at hs t1
      subst ep
      have mu : Mut (H1 p) := by rw [h1]; trivial
      have ew : Ext (gx X cl) ρ1 ρ1 H1 (upd H1 p (.dK [])) := Ext.write mu
      exact ⟨Or.inr (Or.inr (Or.inl ⟨rfl, Or.inl ⟨ks, h1⟩⟩)), p, ks, rfl, rfl, h1, o1 .non _ ρ1 ew (rel1.hp.write hn mu ⟨[], upd_same, rfl⟩) rfl⟩
    · exact o1.elim
def gDct (A B : Sl → Sto → R D) : TgF := fun c σ S => toS σ (A σ S) fun a S1 => toS σ (B σ S1) fun b S2 => match putAt a b c S2 with
  | some S3 => .ok .nx σ S3
  | none => .bad
theorem nx_dct {A B : Sl → Sto → R D} : NxT (gDct A B) := fun d σ S f σ1 S1 h => by
  obtain ⟨a, S2, _, h⟩ := toS_nx h
  obtain ⟨b, S3, _, h⟩ := toS_nx h
  cases e : putAt a b d S3 with
  | none => rw [e] at h; cases h
  | some S4 => rw [e] at h; cases h; rfl
theorem g_dct {i : Expr} (hu : X.A.units + 1 < cLine) (ho : PE X o (tF (gx X cl) W A)) (hi : PE X i (tF (gx X cl) W B)) (ha : ∀ v, assign (.Subscript o i pos) X.env v = (do
      let ov ← holding [v] (eval o X.env)
      let iv ← holding [v, ov] (eval i X.env)
      standAt pos
      holding [v, ov, iv] (setItem ov iv v)
      release [v, ov, iv] []) := by intro _; rfl) : PG X (.Subscript o i pos) (tTg (gx X cl) W (gDct A B)) := by
  refine PG.imp (pg_sub ho hi (set_dict hu) ha) fun v σ H Q ⟨ρ, σd, S, c, rel, rc, oo⟩ => ?_
  refine tG_toS rel oo fun a S1 x H1 ρ1 e1 rel1 t1 o1 => tG_toS rel1 o1 fun b S2 y H2 ρ2 e2 rel2 t2 o2 => ?_
  cases hp : putAt a b c S2 with
  | none => rw [hp] at o2; exact o2.elim
  | some S3 =>
    rw [hp] at o2
    obtain ⟨ad, H', ex, dp, ew, r'⟩ := put_of rel2.hp (t1.ext e2) t2 (rc.ext (e1.trans e2)) hp
    exact ⟨ad, H', ex, dp, OutS.now (OutS.mono ew o2) (rel2.step ew r')⟩
def SPar3 (i j l : Nat) (A : Sl → Sto → R (List D)) : Sl → Sto → RS := fun σ S => toS σ (A σ S) fun ds S1 => match ds with
  | [d, e, f] => .ok .nx (((σ.set i (some d)).set j (some e)).set l (some f)) S1
  | _ => .bad
theorem s_par3 {i j l : Nat} {st : Stmt} {As : Sl → Sto → R (List D)} (p1 : PS X st (tPar3 i j l (tA (gx X cl) W As))) : PS X st (tS (gx X cl) W (SPar3 i j l As)) :=
  PS.imp p1 fun D σ H ⟨ρ, σd, S, rel, oo⟩ => tG_toS rel oo fun ds S1 vs H1 ρ1 e1 rel1 t1 o1 => by
    match ds, t1, o1 with
    | [], _, o1 => exact o1.elim
    | [_], _, o1 => exact o1.elim
    | [_, _], _, o1 => exact o1.elim
    | [d, e, f], t1, o1 =>
      obtain ⟨u, r, rfl, h1, h2⟩ := t1
      obtain ⟨v, w, rfl, h3, h4⟩ := rvs2 h2
      exact ⟨u, v, w, rfl, OutS.now o1 (((rel1.set h1 i).set h3 j).set h4 l)⟩
    | _ :: _ :: _ :: _ :: _, _, o1 => exact o1.elim

/-! ### isinstance(x, C), C an own class -/
def FIsC (nc c : Nat) (A : Sl → Sto → R D) : Sl → Sto → R D := fun σ S => (A σ S).to fun a S1 => match tyD S1 a with
  | some _ => .ok (.bl false) S1
  | none => match a with
    | .loc n => match S1[n]? with
      | some (.ins c' _) => if c' < nc then .ok (.bl (decide (c' = c))) S1 else .bad
      | _ => .bad
    | _ => .bad
structure IsC (K : PySem.W.Frag) (cl : Cl) (nc c : Nat) : Prop where
  ty : ∀ t : Ty, PySem.W.kitOne K (.type t.nm) (.ref (cl.cl c)) = some false
  own : ∀ c', c' < nc → PySem.W.kitOne K (.ref (cl.cl c')) (.ref (cl.cl c)) = some (decide (c' = c))
theorem f_isC {x : Str} {nc c : Nat} {p p2 : Pos} (hC : ∀ c, ClsK X.K (cl.cl c)) (hI : IsC X.K cl nc c) (hm1 : X.mg "isinstance" = none) (hm : X.mg x = some (.ref (cl.cl c)))
    (ha : PE X e (tF (gx X cl) W A)) (hg1 : Gl X "isinstance" := by rfl) (hg : Gl X x := by rfl) (hdb : (x == ("__debug__" : Str)) = false := by decide)
    (he : starEach (e :: [.Name x p2]) X.env = (false, eval e X.env) :: starEach [.Name x p2] X.env := by rfl) (hpl : (backTo pos (starEach [.Name x p2] X.env)).any (·.1) = false := by rfl)
    (he2 : starEach ([.Name x p2]) X.env = (false, eval (.Name x p2) X.env) :: starEach [] X.env := by rfl) : PE X (.Call (.Name "isinstance" p) [e, .Name x p2] [] pos) (tF (gx X cl) W (FIsC nc c A)) := by
  refine PE.imp (pe_callB call_isi hg1 hm1 (by decide +kernel) (pa_cons ha (pa_cons (pe_glob (v := .ref (cl.cl c)) hg hm rfl hdb) pa_nil he2) he) (by decide) (by decide) he hpl) fun σ H Q ⟨ρ, σd, S, rel, oo⟩ => ?_
  refine tG_to rel oo fun a S1 v H1 ρ1 e1 rel1 t1 o1 => ?_
  cases ht : tyD S1 a with
  | some t =>
    rw [ht] at o1
    exact ⟨v, .ref (cl.cl c), .type t.nm, .ref (cl.cl c), false, rfl, .own _, tyD_of rel1.hp t1 ht, hI.ty t, Out.ret o1 rel1.hp rfl⟩
  | none =>
    rw [ht] at o1
    cases a <;> first | exact o1.elim | skip
    rename_i n
    dsimp only at o1
    split at o1
    · rename_i c' fs hs
      obtain ⟨b, rfl, _, dx, vs, h1, _⟩ := rel1.hp.at hs t1
      by_cases hn : c' < nc
      · rw [if_pos hn] at o1
        exact ⟨_, .ref (cl.cl c), _, .ref (cl.cl c), decide (c' = c), rfl, .own _, .base (.ins h1 (hC c').cl (hC c').ha (hC c').hn (hC c').htk (hC c').hm), hI.own c' hn, Out.ret o1 rel1.hp rfl⟩
      · rw [if_neg hn] at o1; exact o1.elim
    · exact o1.elim

/-! ### raise, try -/
/-- a statement that no way reaches in the mirror -/
theorem s_never {st : Stmt} : PS X st (tS (gx X cl) W (fun _ _ => .bad)) := PS.imp ps_never fun D σ H ⟨ρ, σd, S, rel, oo⟩ => oo.elim
/-- raise C('..'), C without an __init__ of its own -/
def SRaise (c : Nat) : Sl → Sto → RS := fun σ S => .ex c [] σ S
theorem s_raise {bmB : List Value} {Bn newId initId : String} {x m : Str} {j c : Nat} {p p2 : Pos} (hc : X.calm = true) (tk : Takes X W) (F : PySem.ExcBaseFacts Bn newId initId bmB) (q : PySem.W.excIn X.K (cl.xc c) bmB newId = true) (gC : X.mg x = some (.ref (cl.xc c))) (kC : PySem.W.keepIn X.K (.ref (cl.xc c)) = true) (r : Raises X (.ref (cl.xc c))) (hg : Gl X x := by rfl)
    (hdb : (x == ("__debug__" : Str)) = false := by decide) : PS X (.Raise (some (.Call (.Name x p) [.Constant (.str m) j p2] [] pos)) none apos) (tS (gx X cl) W (SRaise c)) :=
  PS.imp (ps_raise hc tk (pmk_own F q gC kC r hg hdb)) fun D σ H ⟨ρ, σd, S, rel, oo⟩ => oo σ H ρ (.ref (cl.xc c)) none Ext.refl rel ⟨rfl, .inl rfl⟩
/-- try: body / except ..: .., where the body raises nothing -/
def STry0 (B : Sl → Sto → RS) : Sl → Sto → RS := fun σ S => match B σ S with
  | .ex _ _ _ _ => .bad
  | .ok f σ1 S1 => .ok f σ1 S1
  | .bad => .bad
theorem s_try0 {body : List Stmt} {h₀ : ExceptHandler} {hs : List ExceptHandler} {Bd : Sl → Sto → RS} (hb : PSs X.nox body (tS (gx X cl) W0 Bd)) : PS X (.Try body (h₀ :: hs) [] [] pos) (tS (gx X cl) W (STry0 Bd)) :=
  PS.imp (ps_try_thru0 hb) fun D σ H ⟨ρ, σd, S, rel, oo⟩ => by
    refine ⟨ρ, σd, S, rel, ?_⟩
    unfold STry0 at oo
    cases e : Bd σd S with
    | ok f σ1 S1 => rw [e] at oo; exact oo
    | ex c fs σ1 S1 => rw [e] at oo; exact oo.elim
    | bad => rw [e] at oo; exact oo
end
end Mi
set_option Elab.async false
set_option autoImplicit false
set_option linter.all false
set_option maxRecDepth 100000
set_option maxHeartbeats 4000000
namespace Mi
open PySem L2

/-! ### == of two dicts, their values data at any depth -/
inductive HitsV (K : PySem.W.Frag) (H : Hp) (ls : List (Key × V)) : List (Key × V) → Bool → Prop
  | nil : HitsV K H ls [] true
  | miss {k : Key} {v : V} {r : List (Key × V)} : valV ls k = none → HitsV K H ls ((k, v) :: r) false
  | hit {k : Key} {v y : V} {d e : PyData} {r : List (Key × V)} {b : Bool} : valV ls k = some y → Dp K H v d → Dp K H y e → SeqAt.shaped d = true → SeqAt.shaped e = true → HitsV K H ls r b → HitsV K H ls ((k, v) :: r) (PyData.eqv d e && b)
def rEqDB (K : PySem.W.Frag) (neg : Bool) : R2 := fun x y H Q => ∃ a b ks ls r, x = .ref a ∧ y = .ref b ∧ Rd H a (.dK ks) ∧ Rd H b (.dK ls) ∧ (ks.length = ls.length → HitsV K H ls ks r) ∧ Q (.bl (if neg then !(ks.length == ls.length && r) else (ks.length == ls.length && r))) H
theorem hits_of {X : Cx} {pins : List (Addr × Obj)} {σ : L2.St} {H : Hp} {s : Shared} (I : Inv X pins σ H s) {A : Around} (hu : A.in1.units + 64 < cLine) {ls : List (Key × V)} {vb : List (Key × Value)} (rb : KV ls vb) : ∀ {ks : List (Key × V)} {va : List (Key × Value)} {r : Bool}, KV ks va → HitsV X.K H ls ks r → PySem.W.KeqHits A.in1 s vb va r
  | [], _, _, ra, h => by
    cases ra
    cases h
    exact .nil
  | p :: ks, _, _, ra, h => by
    cases ra with
    | @cons _ q _ qs h1 t =>
      obtain ⟨e1, e2⟩ := h1
      obtain ⟨k', u⟩ := q
      obtain ⟨k, v⟩ := p
      dsimp only at e1 e2
      subst e1
      cases h with
      | miss hn =>
        have rr : RelO none (valueAt vb k) := by rw [← hn]; exact rb.val k
        cases e : valueAt vb k with
        | none => exact .miss e
        | some z => rw [e] at rr; exact rr.elim
      | @hit _ _ y d e r' b hy h2 h3 sd se hr =>
        have rr : RelO (some y) (valueAt vb k) := by rw [← hy]; exact rb.val k
        obtain ⟨z, hz, rz⟩ := rr.some_of
        obtain ⟨as, r1⟩ := Dp.reads I d v u h2 e2
        obtain ⟨bs, r2⟩ := Dp.reads I e y z h3 rz
        exact .hit hz (PySem.W.keq_at r1 r2 sd se hu) (hits_of I hu rb t hr)
theorem op_eqDB {X : Cx} (hu : X.A.units + 65 < cLine) : OpR X (compareOp .Eq) (rEqDB X.K false) := by
  intro pins s σ H x y v u Q I rx ry h
  obtain ⟨a, b, ks, ls, r, rfl, rfl, ea, eb, hh, q⟩ := h
  obtain rfl : v = Value.ref a := rx
  obtain rfl : u = Value.ref b := ry
  obtain ⟨_, ya, va, ra, da⟩ := dk_rd I.hok ea
  obtain ⟨_, yb, vb, rb, db⟩ := dk_rd I.hok eb
  have l1 := ra.length
  have l2 := rb.length
  refine PySem.W.keq_eq (knd := mixKind X.prog X.w) (r := r) ya yb da db (by omega) (fun hl => hits_of I (A := X.A) (by show X.A.units + 1 + 64 < cLine; omega) rb ra (hh (by rw [l1, l2]; exact hl))) (fin_bl I q ?_)
  rw [← l1, ← l2]; rfl
theorem op_neDB {X : Cx} (hu : X.A.units + 65 < cLine) : OpR X (compareOp .NotEq) (rEqDB X.K true) := by
  intro pins s σ H x y v u Q I rx ry h
  obtain ⟨a, b, ks, ls, r, rfl, rfl, ea, eb, hh, q⟩ := h
  obtain rfl : v = Value.ref a := rx
  obtain rfl : u = Value.ref b := ry
  obtain ⟨_, ya, va, ra, da⟩ := dk_rd I.hok ea
  obtain ⟨_, yb, vb, rb, db⟩ := dk_rd I.hok eb
  have l1 := ra.length
  have l2 := rb.length
  refine PySem.W.keq_ne (knd := mixKind X.prog X.w) (r := r) ya yb da db (by omega) (fun hl => hits_of I (A := X.A) (by show X.A.units + 1 + 64 < cLine; omega) rb ra (hh (by rw [l1, l2]; exact hl))) (fin_bl I q ?_)
  rw [← l1, ← l2]; rfl
/-- the values of the one dict in the other -/
def hitsD (S : Sto) (lb : List (Key × D)) : List (Key × D) → Option Bool
  | [] => some true
  | p :: r => match getD lb p.1 with
    | none => some false
    | some d => match pdN S 1 p.2, pdN S 1 d with
      | some x, some y => if SeqAt.shaped x = true ∧ SeqAt.shaped y = true then (hitsD S lb r).map (PyData.eqv x y && ·) else none
      | _, _ => none
def opEqX (neg : Bool) : D2 := fun a b S => match dctAt S a, dctAt S b with
  | some (_, ka), some (_, kb) => if ka.length = kb.length then match hitsD S kb ka with
    | some r => .ok (.bl (if neg then !r else r)) S
    | none => .bad
    else .ok (.bl neg) S
  | _, _ => opEqB neg a b S
theorem hitsD_of {G : Ct} {ρ : List Addr} {H : Hp} {S : Sto} (rel : RelH G ρ H S) {lb : List (Key × D)} {ls : List (Key × V)} (rb : RKs G ρ H lb ls) : ∀ {la : List (Key × D)} {ks : List (Key × V)} {r : Bool}, RKs G ρ H la ks → hitsD S lb la = some r → HitsV G.K H ls ks r
  | [], _, _, ra, h => by
    cases ra
    cases h
    exact .nil
  | p :: la, _, r, ra, h => by
    obtain ⟨v, ks, rfl, h1, h2⟩ := ra
    unfold hitsD at h
    cases e : getD lb p.1 with
    | none =>
      rw [e] at h
      cases h
      exact .miss (getD_none rb e)
    | some d =>
      rw [e] at h
      dsimp only at h
      obtain ⟨y, hy, ry⟩ := getD_some rb e
      cases e1 : pdN S 1 p.2 with
      | none => rw [e1] at h; cases h
      | some x1 =>
        cases e2 : pdN S 1 d with
        | none => rw [e1, e2] at h; cases h
        | some y1 =>
          rw [e1, e2] at h
          dsimp only at h
          by_cases hs : SeqAt.shaped x1 = true ∧ SeqAt.shaped y1 = true
          · rw [if_pos hs] at h
            cases e3 : hitsD S lb la with
            | none => rw [e3] at h; cases h
            | some r' =>
              rw [e3] at h
              cases h
              exact .hit hy (pdN_of rel 1 _ _ _ e1 h1) (pdN_of rel 1 _ _ _ e2 ry) hs.1 hs.2 (hitsD_of rel rb h2 e3)
          · rw [if_neg hs] at h; cases h
def rEqX (K : PySem.W.Frag) : R2 := fun x y H Q => rEqD K x y H Q ∨ rEqDB K false x y H Q
def rNeX (K : PySem.W.Frag) : R2 := fun x y H Q => rNeD K x y H Q ∨ rEqDB K true x y H Q
section
variable {X : Cx} {cl : Cl} {W : WX}
theorem op_eqX (hu : X.A.units + 65 < cLine) : OpR X (compareOp .Eq) (rEqX X.K) := OpR.or (op_eqD (by omega)) (op_eqDB hu)
theorem op_neX (hu : X.A.units + 65 < cLine) : OpR X (compareOp .NotEq) (rNeX X.K) := OpR.or (op_neD (by omega)) (op_neDB hu)
theorem dictEq_of {neg : Bool} {ρ : List Addr} {σ : L2.St} {H : Hp} {S : Sto} {a b : D} {x y : V} {Q : VK} {qa qb : Bool × List (Key × D)} (rel : RelH (gx X cl) ρ H S) (ra : RV (gx X cl) ρ H a x) (rb : RV (gx X cl) ρ H b y) (ha : dctAt S a = some qa) (hb : dctAt S b = some qb) (o : Out (gx X cl) (RV (gx X cl)) W ρ σ H (opEqX neg a b S) Q) : rEqDB X.K neg x y H Q := by
  unfold opEqX at o
  obtain ⟨la, ka⟩ := qa
  obtain ⟨lb, kb⟩ := qb
  rw [ha, hb] at o
  dsimp only at o
  obtain ⟨p, ks, _, _, _, _, rfl, h1, rk1, _⟩ := dct_of rel ra ha
  obtain ⟨q, ls, _, _, _, _, rfl, h2, rk2, _⟩ := dct_of rel rb hb
  by_cases hl : ka.length = kb.length
  · rw [if_pos hl] at o
    cases e : hitsD S kb ka with
    | none => rw [e] at o; exact o.elim
    | some r =>
      rw [e] at o
      refine ⟨p, q, ks, ls, r, rfl, rfl, h1, h2, fun _ => hitsD_of rel rk2 rk1 e, ?_⟩
      rw [← rk1.length, ← rk2.length, show (ka.length == kb.length) = true from by rw [hl]; simp, Bool.true_and]
      exact Out.ret o rel rfl
  · rw [if_neg hl] at o
    refine ⟨p, q, ks, ls, true, rfl, rfl, h1, h2, fun z => absurd (by rw [rk1.length, rk2.length]; exact z) hl, ?_⟩
    rw [← rk1.length, ← rk2.length, show (ka.length == kb.length) = false from beq_eq_false_iff_ne.mpr hl, Bool.false_and]
    have := Out.ret (b := V.bl neg) o rel rfl
    cases neg <;> exact this
theorem opEqX_else {neg : Bool} {S : Sto} {a b : D} (h : dctAt S a = none ∨ dctAt S b = none) : opEqX neg a b S = opEqB neg a b S := by
  unfold opEqX
  cases ha : dctAt S a with
  | none => rfl
  | some qa =>
    cases hb : dctAt S b with
    | none => rfl
    | some qb =>
      rcases h with h | h
      · rw [ha] at h; cases h
      · rw [hb] at h; cases h
theorem o_eqX : Op2 (gx X cl) W (opEqX false) (rEqX X.K) := by
  intro ρ σ H S a b x y Q rel ra rb o
  cases ha : dctAt S a with
  | none => exact .inl (o_eq (W := W) ρ σ H S a b x y Q rel ra rb (by rw [opEqX_else (.inl ha)] at o; exact o))
  | some qa =>
    cases hb : dctAt S b with
    | none => exact .inl (o_eq (W := W) ρ σ H S a b x y Q rel ra rb (by rw [opEqX_else (.inr hb)] at o; exact o))
    | some qb => exact .inr (dictEq_of rel ra rb ha hb o)
theorem o_neX : Op2 (gx X cl) W (opEqX true) (rNeX X.K) := by
  intro ρ σ H S a b x y Q rel ra rb o
  cases ha : dctAt S a with
  | none => exact .inl (o_ne (W := W) ρ σ H S a b x y Q rel ra rb (by rw [opEqX_else (.inl ha)] at o; exact o))
  | some qa =>
    cases hb : dctAt S b with
    | none => exact .inl (o_ne (W := W) ρ σ H S a b x y Q rel ra rb (by rw [opEqX_else (.inr hb)] at o; exact o))
    | some qb => exact .inr (dictEq_of rel ra rb ha hb o)
end

/-! ### tuple * int -/
theorem tuple_mul1 (l : Addr) (items : Array Value) (n : Nat) (dd : Option Addr) (sl : Array (Option Value)) (u : Tok) :
    Meets (Builtin.«tuple.__mul__» ⟨[.ref l, .int 1 u], []⟩) (fun _ R s => s.heap.get? l = some { cls := .type "tuple", dict := dd, data := .seq items n, slots := sl } ∧ R (.ok (.ret (Value.ref l))) s) :=
  .of_wp fun prog w A R s h => by
    obtain ⟨hp, g, d, tk, os⟩ := s
    obtain ⟨hl, h⟩ := h
    have f1 := AutoSeq1.idx_int
    have c1 : (items.isEmpty || ((1 : Int) == 1)) = true := by simp
    wp_walk using AutoSeq1.wpAny_loadPart' hl
    exact ⟨_, rfl, h⟩
def rRep1 (K : PySem.W.Frag) : R2 := fun x y H Q => ∃ l xs, x = .ref l ∧ y = .int 1 ∧ SqT K H l xs ∧ Q (.ref l) H
theorem op_rep1 {X : Cx} : OpR X (binaryOp .Mult) (rRep1 X.K) := by
  intro pins s σ H x y v u Q I rx ry h
  obtain ⟨l, xs, rfl, rfl, hT, q⟩ := h
  cases rx
  obtain ⟨t, rfl⟩ := ry
  obtain ⟨its, r, ⟨⟨cls, dd, data, sl⟩, ho, hc, n, hd⟩, hs⟩ := I.tuple hT
  simp only at hc hd
  subst hc hd
  refine wpAny_binaryOp_repeat_ref (T := "tuple") (U := "int") (by decide) ⟨_, ho, rfl⟩ (fun s' => typeIs_int s' 1 t) noFill_tuple_mul F.fills_int_mul F.slot_int_rmul repeat_tuple F.slot_int_index.lookup
    (call_meets F.slot_int_rmul (typeIs_int s 1 t) F.entry_int_rmul (F.args_int_rmul_2 _ _) (int_rmul_tuple 1 t l its.toArray n dd sl)
      ⟨ho, rfl, ⟨_, ho, rfl⟩, call_meets F.slot_tuple_mul ⟨_, ho, rfl⟩ F.entry_tuple_mul (F.args_tuple_mul_2 _ _) (tuple_mul1 l its.toArray n dd sl t) ⟨ho, ?_⟩⟩)
  exact ⟨.ref l, H, I.tok _, rfl, q⟩
def opMulX : D2 := fun a b S => match a, b with
  | .int i, .int j => opMulI i j S
  | .tup xs, .int k => if k = 1 then .ok (.tup xs) S else if xs ≠ [] ∧ 2 ≤ k ∧ k ≤ 1000 ∧ xs.length ≤ 1000 then newTup (List.replicate k.toNat xs).flatten S else .bad
  | _, _ => .bad
def rMulX (K : PySem.W.Frag) : R2 := fun x y H Q => (rI CMul (fun i j => V.int (i * j)) x y H Q ∨ rRep1 K x y H Q) ∨ rRepT K x y H Q
theorem RVs.rep {G : Ct} {ρ : List Addr} {H : Hp} {ds : List D} {vs : List V} (r : RVs G ρ H ds vs) : ∀ m, RVs G ρ H (List.replicate m ds).flatten (List.replicate m vs).flatten
  | 0 => rfl
  | m + 1 => by
    rw [List.replicate_succ, List.replicate_succ, List.flatten_cons, List.flatten_cons]
    exact r.append (RVs.rep r m)
section
variable {X : Cx} {cl : Cl} {W : WX}
theorem op_mulX : OpR X (binaryOp .Mult) (rMulX X.K) := (op_mul.or op_rep1).or op_repT
theorem o_mulX : Op2 (gx X cl) W opMulX (rMulX X.K) := by
  intro ρ σ H S a b x y Q rel ra rb o
  cases a <;> first | exact o.elim | skip
  · cases b <;> first | exact o.elim | skip
    exact .inl (.inl (o_mul (W := W) ρ σ H S _ _ x y Q rel ra rb o))
  · cases b <;> first | exact o.elim | skip
    rename_i xs k
    unfold opMulX at o
    dsimp only at o
    obtain ⟨p, vs, rfl, h1, h2⟩ := ra
    cases rb
    by_cases hk : k = 1
    · rw [if_pos hk] at o
      subst hk
      exact .inl (.inr ⟨p, vs, rfl, rfl, h1, Out.ret o rel ⟨p, vs, rfl, h1, h2⟩⟩)
    · rw [if_neg hk] at o
      by_cases hc : xs ≠ [] ∧ 2 ≤ k ∧ k ≤ 1000 ∧ xs.length ≤ 1000
      · rw [if_pos hc] at o
        have hl := h2.length
        refine .inr ⟨p, k, vs, rfl, rfl, h1, fun z => hc.1 ?_, hc.2.1, hc.2.2.1, by rw [← hl]; exact hc.2.2.2, (out_tup rel (h2.rep k.toNat) o).2⟩
        rw [z] at hl
        exact List.eq_nil_of_length_eq_zero hl
      · rw [if_neg hc] at o; exact o.elim
end

/-! ### {k: v} -/
def FDisp1 (A B : Sl → Sto → R D) : Sl → Sto → R D := fun σ S => (A σ (S ++ [.dct false []])).to fun a S1 => (B σ S1).to fun b S2 => match keyD a, S2[S.length]? with
  | some k, some (.dct false []) => .ok (.loc S.length) (S2.set S.length (.dct false [(k, b)]))
  | _, _ => .bad
section
variable {X : Cx} {cl : Cl} {W : WX}
theorem f_disp1 {k v : Expr} {A B : Sl → Sto → R D} {pos : Pos} (hk : PE X k (tF (gx X cl) W A)) (hv : PE X v (tF (gx X cl) W B)) : PE X (.Dict [some k] [v] pos) (tF (gx X cl) W (FDisp1 A B)) := by
  refine PE.imp (pe_disp (pps_cons hk hv pps_nil) rfl rfl (by simp) (by simp)) fun σ H Q ⟨ρ, σd, S, rel, o⟩ => ?_
  intro p hp
  have e0 : Ext (gx X cl) ρ (ρ ++ [p]) H (upd H p (.dK [])) := (Ext.new hp).more
  have r0 : Rel (gx X cl) (ρ ++ [p]) σ σd (upd H p (.dK [])) (S ++ [.dct false []]) := rel.step e0 (rel.hp.new hp ⟨[], upd_same, rfl⟩)
  have ap : (ρ ++ [p])[S.length]? = some p := by rw [← rel.hp.len, List.getElem?_append_right (Nat.le_refl _)]; simp
  show tF (gx X cl) W A σ _ _
  unfold FDisp1 at o
  refine tG_to r0 (Out.mono e0 o) fun a S1 x H1 ρ1 e1 rel1 t1 o1 => ?_
  refine tG_to rel1 o1 fun b S2 y H2 ρ2 e2 rel2 t2 o2 => ?_
  cases ha : keyD a with
  | none => rw [ha] at o2; exact o2.elim
  | some k =>
    rw [ha] at o2
    split at o2
    · rename_i k' hk' hs
      cases hk'
      have ap2 : ρ2[S.length]? = some p := e2.get (e1.get ap)
      obtain ⟨ks, h1, h2⟩ := rel2.hp.obj _ _ _ ap2 hs
      cases h2
      refine ⟨h1, [(k, y)], ?_, by simp, ?_⟩
      · rw [keyD_rv ha t1]; rfl
      · have mu : Mut (H2 p) := by rw [h1]; trivial
        have ew : Ext (gx X cl) ρ2 ρ2 H2 (upd H2 p (.dK (mergeK [] [(k, y)]))) := Ext.write mu
        refine Out.ret (Out.mono ew o2) (rel2.hp.write ap2 mu ⟨[(k, y)], upd_same, y, [], rfl, t2.ext ew, rfl⟩) ⟨p, rfl, ap2⟩
    · exact o2.elim
end
end Mi
set_option Elab.async false
set_option autoImplicit false
set_option linter.all false
set_option maxRecDepth 100000
set_option maxHeartbeats 4000000
namespace Mi
open PySem L2

/-! ### what is read of an exception that a suite holds -/
def Cl.hold (cl : Cl) (a : Addr) (d : Option Addr) : Cl := { cl with ex := d.map fun dd => (a, dd) }
mutual
theorem RV.hold {K : PySem.W.Frag} {cl cl' : Cl} (h : cl'.cl = cl.cl) {ρ : List Addr} {H : Hp} : ∀ (d : D) (v : V), RV ⟨K, cl⟩ ρ H d v → RV ⟨K, cl'⟩ ρ H d v
  | .non, v, r => r
  | .bl _, v, r => r
  | .int _, v, r => r
  | .str _, v, r => r
  | .tup xs, v, r => by
    obtain ⟨a, vs, e, h1, h2⟩ := r
    exact ⟨a, vs, e, h1, RVs.hold h xs vs h2⟩
  | .fl xs, v, r => by
    obtain ⟨a, vs, e, h1, h2⟩ := r
    exact ⟨a, vs, e, h1, RVs.hold h xs vs h2⟩
  | .loc n, v, r => r
  | .cls c, v, r => by
    show v = .ref (cl'.cl c)
    rw [h]; exact r
  | .exc _ _, v, r => r.elim
theorem RVs.hold {K : PySem.W.Frag} {cl cl' : Cl} (h : cl'.cl = cl.cl) {ρ : List Addr} {H : Hp} : ∀ (ds : List D) (vs : List V), RVs ⟨K, cl⟩ ρ H ds vs → RVs ⟨K, cl'⟩ ρ H ds vs
  | [], _, r => r
  | d :: ds, _, r => by
    obtain ⟨v, w, rfl, h1, h2⟩ := r
    exact ⟨v, w, rfl, RV.hold h d v h1, RVs.hold h ds w h2⟩
end
section
variable {K : PySem.W.Frag} {cl cl' : Cl} {ρ ρ' : List Addr} {H H' : Hp} {S : Sto}
theorem RKs.hold (h : cl'.cl = cl.cl) : ∀ {ps : List (Key × D)} {ks : List (Key × V)}, RKs ⟨K, cl⟩ ρ H ps ks → RKs ⟨K, cl'⟩ ρ H ps ks
  | [], _, r => r
  | p :: ps, _, r => by
    obtain ⟨v, w, rfl, h1, h2⟩ := r
    exact ⟨v, w, rfl, RV.hold h _ _ h1, RKs.hold h h2⟩
theorem RNs.hold (h : cl'.cl = cl.cl) : ∀ {ps : List (NestedKey × D × D)} {ks : List (NestedKey × Addr × Value)}, RNs ⟨K, cl⟩ ρ H ps ks → RNs ⟨K, cl'⟩ ρ H ps ks
  | [], _, r => r
  | p :: ps, _, r => by
    obtain ⟨b, u, v, r, rfl, h1, h2, h3, h4, h5, h6⟩ := r
    exact ⟨b, u, v, r, rfl, h1, h2, RV.hold h _ _ h3, RV.hold h _ _ h4, h5, RNs.hold h h6⟩
theorem OM.hold (h : cl'.cl = cl.cl) (hf : cl'.fn = cl.fn ∧ cl'.pw = cl.pw) {a : Addr} {o : O} (q : OM ⟨K, cl⟩ ρ H a o) : OM ⟨K, cl'⟩ ρ H a o := by
  match o, q with
  | .lst ds, ⟨vs, e1, h1⟩ => exact ⟨vs, e1, RVs.hold h _ _ h1⟩
  | .dct false kvs, ⟨ks, e1, h1⟩ => exact ⟨ks, e1, h1.hold h⟩
  | .dct true kvs, ⟨ks, o, e1, h1⟩ => exact ⟨ks, o, e1, h1.hold h⟩
  | .dtn false kvs, ⟨P, w, xs, e0, e1, h1⟩ => exact ⟨P, w, xs, hf.2.trans e0, e1, h1.hold h⟩
  | .dtn true kvs, ⟨P, w, xs, o, e0, e1, h1⟩ => exact ⟨P, w, xs, o, hf.2.trans e0, e1, h1.hold h⟩
  | .ins c ds, ⟨dx, vs, e1, h1, h2⟩ =>
    refine ⟨dx, vs, ?_, RVs.hold h _ _ h1, ?_⟩
    · show H a = Option.some (HO.ins (cl'.cl c) dx ((cl'.fn c).zip vs))
      rw [h, hf.1]; exact e1
    · show ds.length ≤ (cl'.fn c).length
      rw [hf.1]; exact h2
theorem RelH.hold (h : cl'.cl = cl.cl) (hf : cl'.fn = cl.fn ∧ cl'.pw = cl.pw) (r : RelH ⟨K, cl⟩ ρ H S) : RelH ⟨K, cl'⟩ ρ H S := ⟨r.len, r.nd, fun n a o h1 h2 => (r.obj n a o h1 h2).hold h hf⟩
theorem Ext.hold (e : Ext ⟨K, cl⟩ ρ ρ' H H') : Ext ⟨K, cl'⟩ ρ ρ' H H' := ⟨e.pre, e.tup, e.frz, e.xd⟩
theorem Out.hold (h : cl'.cl = cl.cl) (hf : cl'.fn = cl.fn ∧ cl'.pw = cl.pw) (hx : cl'.xc = cl.xc) {W : WX} {σ : L2.St} {r : R D} {Q : VK} (o : Out ⟨K, cl⟩ (RV ⟨K, cl⟩) W ρ σ H r Q) : Out ⟨K, cl'⟩ (RV ⟨K, cl'⟩) W ρ σ H r Q := by
  cases r with
  | ok a S => exact fun b H' ρ' e r t => o b H' ρ' e.hold (r.hold h.symm ⟨hf.1.symm, hf.2.symm⟩) (RV.hold h.symm _ _ t)
  | ex c fs S =>
    refine fun H' ρ' cls dd e r t => o H' ρ' cls dd e.hold (r.hold h.symm ⟨hf.1.symm, hf.2.symm⟩) ?_
    obtain ⟨t1, t2⟩ := t
    refine ⟨by show cls = .ref (cl.xc c); rw [← hx]; exact t1, ?_⟩
    rcases t2 with t2 | ⟨d, vs, e1, e2, e3⟩
    · exact .inl t2
    · refine .inr ⟨d, vs, e1, e2, ?_⟩
      clear o e1 e2
      induction fs generalizing vs with
      | nil => exact e3
      | cons p fs ih =>
        obtain ⟨v, w, rfl, q1, q2⟩ := e3
        exact ⟨v, w, rfl, RV.hold h.symm _ _ q1, ih w q2⟩
  | bad => exact o
end
/-- a def's promise where an exception is held -/
theorem spF_hold {K : PySem.W.Frag} {cl cl' : Cl} (h : cl'.cl = cl.cl) (hf : cl'.fn = cl.fn ∧ cl'.pw = cl.pw) (hx : cl'.xc = cl.xc) {m : DN} {vs : List V} {H : Hp} {Q : VK} {E : XK} (q : spF ⟨K, cl'⟩ m vs H Q E) : spF ⟨K, cl⟩ m vs H Q E := by
  obtain ⟨ρ, ds, S, rel, rv, o⟩ := q
  exact ⟨ρ, ds, S, rel.hold h.symm ⟨hf.1.symm, hf.2.symm⟩, RVs.hold h.symm _ _ rv, o.hold h.symm ⟨hf.1.symm, hf.2.symm⟩ hx.symm⟩
theorem fnr_hold {P : Program} {w : World} {K : PySem.W.Frag} {mg : Str → Option Value} {base : Heap} {k : Nat} {f : Addr} {cl : Cl} {m : DN} (F : FnR P w K mg base (L2.CX P w) k f (spF ⟨K, cl⟩ m)) (a : Addr) (d : Option Addr) : FnR P w K mg base (L2.CX P w) k f (spF ⟨K, cl.hold a d⟩ m) :=
  fun A outer s H us vs Q E hr e0 r h => F A outer s H us vs Q E hr e0 r (spF_hold (cl := cl) (cl' := cl.hold a d) rfl ⟨rfl, rfl⟩ rfl h)
/-- forget the exceptions that names hold -/
def noX : Option D → Option D
  | some (.exc _ _) => none
  | x => x
def clr (i : Nat) (σ : Sl) : Sl := (σ.set i none).map noX
theorem Rel.clr {K : PySem.W.Frag} {cl cl' : Cl} {ρ : List Addr} {σ : L2.St} {σd : Sl} {H : Hp} {S : Sto} {i : Nat} (h : cl'.cl = cl.cl) (hf : cl'.fn = cl.fn ∧ cl'.pw = cl.pw) (r : Rel ⟨K, cl'⟩ ρ σ σd H S) : Rel ⟨K, cl⟩ ρ (σ.set i none) (clr i σd) H S := by
  refine ⟨r.hp.hold h.symm ⟨hf.1.symm, hf.2.symm⟩, by simp [Mi.clr, r.len], fun j d q => ?_⟩
  unfold Mi.clr at q
  rw [List.getElem?_map] at q
  by_cases e : i = j
  · subst e
    by_cases hl : i < σd.length
    · rw [List.getElem?_set_self hl] at q; cases q
    · rw [List.getElem?_eq_none (by simp; omega)] at q; cases q
  · rw [List.getElem?_set_ne e] at q
    cases e1 : σd[j]? with
    | none => rw [e1] at q; cases q
    | some od =>
      rw [e1] at q
      cases od with
      | none => cases q
      | some d' =>
        obtain ⟨v, hv, rv⟩ := r.sl j d' e1
        refine ⟨v, by rw [List.getElem?_set_ne e]; exact hv, ?_⟩
        rcases rv with rv | ⟨ns, ds, _, _, _, rfl, _⟩
        · have : d' = d := by
            cases d' <;> first | exact rv.elim | (cases q; rfl)
          subst this
          exact .inl (RV.hold h.symm _ _ rv)
        · cases q
def excD (fs : List (Str × D)) : Option D := match fs with
  | [] => none
  | p :: r => some (.exc ((p :: r).map (·.1)) ((p :: r).map (·.2)))
/-- try: body / except C as n: suite -/
def STryAs (sub : Nat → Option Bool) (i : Nat) (B : Sl → Sto → RS) (Su : Nat → Sl → Sto → RS) : Sl → Sto → RS := fun σ S => match B σ S with
  | .ok f σ1 S1 => .ok f σ1 S1
  | .bad => .bad
  | .ex c fs σ1 S1 => match sub c with
    | some true => match Su c (σ1.set i (excD fs)) S1 with
      | .ok f σ2 S2 => .ok f (clr i σ2) S2
      | _ => .bad
    | some false => .ex c fs σ1 S1
    | none => .bad
section
theorem rfs_zip {G : Ct} {ρ : List Addr} {H : Hp} : ∀ {fs : List (Str × D)} {vs : List (Str × V)}, RFs G ρ H fs vs → ∃ ws, vs = (fs.map (·.1)).zip ws ∧ RVs G ρ H (fs.map (·.2)) ws
  | [], _, h => by cases h; exact ⟨[], rfl, rfl⟩
  | p :: fs, _, h => by
    obtain ⟨v, r, rfl, h1, h2⟩ := h
    obtain ⟨ws, rfl, h3⟩ := rfs_zip h2
    exact ⟨v :: ws, rfl, v, ws, rfl, h1, h3⟩
variable {X : Cx} {cl : Cl} {W : WX} {x n : Str} {c : Value} {i : Nat} {body suite : List Stmt} {b₀ : Stmt} {np pos pos' : Pos} {B : Sl → Sto → RS} {Su : Nat → Sl → Sto → RS} {sub : Nat → Option Bool}
theorem Rel.setX {G : Ct} {ρ : List Addr} {σ : L2.St} {σd : Sl} {H : Hp} {S : Sto} (r : Rel G ρ σ σd H S) {od : Option D} {v : V} (h : ∀ d, od = some d → RVx G ρ H d v) (i : Nat) : Rel G ρ (σ.set i (some v)) (σd.set i od) H S := by
  refine ⟨r.hp, by simp [r.len], fun j d' q => ?_⟩
  by_cases e : i = j
  · subst e
    have hi : i < σd.length := by
      have := (List.getElem?_eq_some_iff.mp q).1
      simpa using this
    rw [List.getElem?_set_self hi] at q
    cases od with
    | none => cases q
    | some d =>
      cases q
      exact ⟨v, List.getElem?_set_self (by rw [r.len]; exact hi), h _ rfl⟩
  · rw [List.getElem?_set_ne e] at q
    rw [List.getElem?_set_ne e]
    exact r.sl j d' q
theorem s_try_as (hs : X.stack = X.env :: X.outer) (hf : X.env.frame = some X.env.locals) (hN : X.N.Nodup) (hi : X.N[i]? = some n) (hln : X.env.kindOf n = some .local) (hc : Names X x c) (tk : Takes X W) (hex : cl.ex = none)
    (hsub : ∀ k b, sub k = some b → PySem.W.exmOne X.K (.ref (cl.xc k)) c = some b)
    (hb : ∀ (W : WX) (pn : List (Addr × Obj)) (xe : Value → Shared → Prop), Takes (X.tr pn xe) W → PassesOwn (model X.prog X.w) X.A X.env xe → PSs (X.tr pn xe) body (tS (gx X cl) W B))
    (hsu : ∀ (k : Nat) (a : Addr) (oe : Obj) (d : Option Addr) (pn : List (Addr × Obj)), sub k = some true → Zc (.ref (cl.xc k)) d oe → (∃ vs, oe.data = .fields vs) → PSs (X.suite a ((a, oe) :: pn)) (b₀ :: suite) (tS (gx X (cl.hold a d)) W0 (Su k))) :
    PS X (.Try body [.ExceptHandler (some (.Name x np)) (some n) (b₀ :: suite) pos'] [] [] pos) (tS (gx X cl) W (STryAs sub i B Su)) := by
  refine PS.imp (ps_try_as (tb := fun W => tS (gx X cl) W B) (ts := fun a cls d => fun D σ H => ∃ k, sub k = some true ∧ cls = .ref (cl.xc k) ∧ tS (gx X (cl.hold a d)) W0 (Su k) D σ H) hs hf hN hi hln hc tk hb (fun a oe cls d pn hz hfs => ⟨fun pins s σ H D I ⟨k, hk, ec, q⟩ => (hsu k a oe d pn hk (by rw [← ec]; exact hz) hfs).run pins s σ H D I q⟩)) fun D σ H ⟨ρ, σd, S, rel, o⟩ => ?_
  refine ⟨ρ, σd, S, rel, ?_⟩
  unfold STryAs at o
  cases e : B σd S with
  | ok f σ1 S1 => rw [e] at o; exact o
  | bad => rw [e] at o; exact o
  | ex k fs σ1 S1 =>
    rw [e] at o
    dsimp only at o
    intro σ' H' ρ' cls dd ex rel' xr
    obtain ⟨xr1, xr2⟩ := xr
    cases es : sub k with
    | none => rw [es] at o; exact o.elim
    | some b =>
      rw [es] at o
      refine ⟨b, by rw [xr1]; exact hsub k b es, fun hb1 a ha => ?_, fun hb0 => ?_⟩
      · subst hb1
        refine ⟨k, es, xr1, ρ', σ1.set i (excD fs), S1, ?_, ?_⟩
        · have r1 : Rel (gx X (cl.hold a dd)) ρ' σ' σ1 H' S1 := by
            refine ⟨RelH.hold (cl := cl) (cl' := cl.hold a dd) rfl ⟨rfl, rfl⟩ rel'.hp, rel'.len, fun j d q => ?_⟩
            obtain ⟨v, hv, rv⟩ := rel'.sl j d q
            refine ⟨v, hv, ?_⟩
            rcases rv with rv | ⟨_, _, _, _, _, _, h2, _⟩
            · exact .inl (RV.hold (cl := cl) (cl' := cl.hold a dd) rfl _ _ rv)
            · rw [show (gx X cl).c.ex = none from hex] at h2; cases h2
          refine r1.setX (fun d hd => ?_) i
          rcases xr2 with rfl | ⟨d0, vs, rfl, h1, h2⟩
          · cases hd
          · cases fs with
            | nil => cases hd
            | cons p fs =>
              cases hd
              obtain ⟨ws, rfl, h3⟩ := rfs_zip h2
              exact .inr ⟨_, _, a, d0, ws, rfl, rfl, rfl, h1, RVs.hold (cl := cl) (cl' := cl.hold a (some d0)) rfl _ _ h3⟩
        · dsimp only at o
          cases e2 : Su k (σ1.set i (excD fs)) S1 with
          | ok f σ2 S2 =>
            rw [e2] at o
            intro σ3 H3 ρ3 ex3 rel3
            have q := o (σ3.set i none) H3 ρ3 (ex.trans ex3.hold) (Rel.clr (cl := cl) (cl' := cl.hold a dd) rfl ⟨rfl, rfl⟩ rel3)
            cases f with
            | nx => exact q
            | rt d => exact fun v rv => q v (RV.hold (cl := cl.hold a dd) (cl' := cl) rfl _ _ rv)
            | bk => exact q
            | ct => exact q
          | ex _ _ _ _ => rw [e2] at o; exact o.elim
          | bad => rw [e2] at o; exact o.elim
      · subst hb0
        exact o σ' H' ρ' cls dd ex rel' ⟨xr1, xr2⟩
/-- n.f in the suite -/
def FXf (i : Nat) (f : Str) : Sl → Sto → R D := fun σ S => match σ[i]? with
  | some (some (.exc ns ds)) => match (ns.zip ds).lookup f with
    | some d => .ok d S
    | none => .bad
  | _ => .bad
theorem zip_lookup {G : Ct} {ρ : List Addr} {H : Hp} {f : Str} {d : D} : ∀ {ns : List Str} {ds : List D} {vs : List V}, RVs G ρ H ds vs → (ns.zip ds).lookup f = some d → ∃ v, (ns.zip vs).lookup f = some v ∧ RV G ρ H d v
  | [], _, _, _, h => by cases h
  | _ :: _, [], _, _, h => by cases h
  | m :: ns, e :: ds, _, r, h => by
    obtain ⟨v, vs, rfl, h1, h2⟩ := r
    have h : (match f == m with
      | true => some e
      | false => (ns.zip ds).lookup f) = some d := h
    show ∃ w, (match f == m with
      | true => some v
      | false => (ns.zip vs).lookup f) = some w ∧ _
    cases q : f == m with
    | true =>
      rw [q] at h
      cases h
      exact ⟨v, rfl, h1⟩
    | false =>
      rw [q] at h
      exact zip_lookup h2 h
theorem f_xf {a : Addr} {k : Nat} {oe : Obj} {d : Option Addr} {pn : List (Addr × Obj)} {f : Str} {p : Pos} {W : WX} (T : XfC X.K (cl.xc k)) (hno : PySem.W.findIn X.K (.ref (cl.xc k)) f = some none) (hz : Zc (.ref (cl.xc k)) d oe) (hfs : ∃ vs, oe.data = .fields vs) (hN : X.N[i]? = some n)
    (hv : Vis X.env.scope n := by first | exact Or.inl rfl | exact Or.inr (Or.inl rfl) | exact Or.inr (Or.inr rfl)) (hd : (n == ("__debug__" : Str)) = false := by decide) (hcd : (n == ("__classdict__" : Str)) = false := by decide)
    (hb : attributeBase (.Name n p) f X.env (eval (.Name n p) X.env) = eval (.Name n p) X.env := by rfl) : PE (X.suite a ((a, oe) :: pn)) (.Attribute (.Name n p) f pos) (tF (gx X (cl.hold a d)) W (FXf i f)) := by
  refine PE.imp (pe_xf T hno hz hfs (pe_var (X := X.suite a ((a, oe) :: pn)) hN hv hd hcd) hb) fun σ H Q ⟨ρ, σd, S, rel, o⟩ => ?_
  unfold FXf at o
  split at o
  · rename_i ns ds e
    split at o
    · rename_i d' hl
      obtain ⟨v, hv, rv⟩ := rel.sl i _ e
      rcases rv with rv | ⟨ns', ds', a', dd, vs, h1, h2, h3, h4, h5⟩
      · exact rv.elim
      · cases h1
        obtain ⟨w, hw, rw'⟩ := zip_lookup h5 hl
        cases d with
        | none => cases h2
        | some e0 =>
          cases h2
          exact ⟨v, hv, h3, rfl, _, _, w, rfl, h4, hw, Out.ret o rel.hp rw'⟩
    · exact o.elim
  · exact o.elim
end
end Mi
set_option Elab.async false
set_option autoImplicit false
set_option linter.all false
set_option maxRecDepth 100000
set_option maxHeartbeats 1000000
namespace Mi
open PySem L2 NdefX PyProof.Rows

/-! ### a def of an exception class that says super().__init__(text) first -/
/-- where it stands: its class at D -/
structure SupAt (P : Program) (K : PySem.W.Frag) (mg : Str → Option Value) (name qual : Str) (st : Stmt) (dV : Value) (f D : Addr) (fd : FuncData) : Prop where
  ex : ∃ (oc : Value) (od : Option Addr) (kV doc pm : Value) (an : Option Addr) (cda : Addr) (ct : Value) (osl : Array (Option Value)) (cc : Addr),
    fd = PySem.W.ksFn name qual (defArgs st) (defBody st) (defScope st) dV kV doc pm an (.ref cda) ct cc ∧ K.lookup f = some ⟨oc, od, .func fd, osl⟩ ∧ PySem.W.codeIn K (.ref cda) qual = true ∧
    (∃ ccl cdd vs ccs file tf, K.lookup cda = some (⟨ccl, cdd, .fields vs, ccs⟩ : Obj) ∧ vs[2]? = some (.str file tf) ∧ ((P.main.file : Str) == file) = true) ∧
    ∃ ccl cld csl, K.lookup cc = some (⟨ccl, cld, .cell (some (.ref D)), csl⟩ : Obj)
  clsD : ∃ cd, PySem.W.clsIn K D = some cd
  sup : mg "super" = none
  top : (P.main.scope.names.lookup ("super" : Str)).isSome = false
  opq : PySem.W.nsIn K cStatics "thirdparty.any" = some none
/-- what is known of the class C of what is made -/
structure SupC (K : PySem.W.Frag) (C D : Addr) : Prop where
  o : OexC K C
  sub : PySem.W.mroIn K C (.ref D) = some true
  init : PySem.W.ks_superIn K C D "__init__" = some (some (.builtin "ValueError.__init__"))
  ve : PySem.W.subIn K (.ref C) (.type "ValueError") = some true
/-! ### the built-in __init__ bound to the exception, called -/
open PySem.W in
theorem call_mwVE {prog : Program} {w : World} {A : Around} {E : Value → Shared → Prop} {h : Heap} {g : Array GenState} {d : Drawn} {t : Nat} {os : OsState} {nm q : Str} {C N u e t0 : Addr} {bs bm : List Value} {hdct : Bool} {sn : List Str} {sub : List Value} {ab : Bool} {col : Option Bool} {dd : Option Addr} {k0 k1 k2 k3 k5 : Option Value} {rest : List Value} {Q : Value → Shared → Prop}
    (hC : h.get? C = some (excClassObj nm q C N bs bm hdct sn sub ab col dd k0 k1 k2 k3 k5 "ValueError.__new__")) (he : h.get? e = some (excObj C t0 none .none)) (hu : h.get? u = some (kxs_mw "ValueError.__init__" e)) (hrest : rest.length ≤ sizeLine)
    (hq : ∀ h', (∀ b o, b ≠ e → h.get? b = some o → h'.get? b = some o) → h'.get? e = some (excObj C h.objs.size none .none) → Q .none ⟨h', g, d, t, os⟩) :
    wpAny (model prog w) A (call (.ref u) rest) Q E ⟨h, g, d, t, os⟩ := by
  refine wpAny_call (codeAny_of_tree ?_)
  show wpAny _ A.in1 (callAny (.ref u) ⟨rest, []⟩) _ _ _
  simp only [callAny]
  refine wpAny_bind (wpAny_load hu ?_)
  simp only [kxs_mw, show (Value.type "method-wrapper" == Value.type "method" || Value.type "method-wrapper" == Value.type "builtin_function_or_method" || Value.type "method-wrapper" == Value.type "method-wrapper") = true by decide, if_true]
  refine KFB.if_so (by decide) ?_
  refine wpAny_bind (check_bound_init PySem.F.excBase_ValueError.toExcCallFacts hC he rfl ?_)
  refine wpAny_bind (wpAny_pure (wpAny_pure ?_))
  refine ⟨plainId_quiet PySem.F.excBase_ValueError.init.plain _, codeAny_builtin PySem.F.excBase_ValueError.initEntry ?_⟩
  exact exc_init_tree (cls := .ref C) (t0 := t0) (dv := none) (c2 := .none) (c3 := .none) (b4 := .bool false) he hrest fun h' k e' _ => hq h' k e'
section
variable {CX : CXT} {P : Program} {w : World} {K : PySem.W.Frag} {mg : Str → Option Value} {base : Heap} {N ps : List Str} {k : Nat} {f C D : Addr} {fd : FuncData} {name qual : Str} {st : Stmt}
theorem fnok_super {p0 p1 p2 p3 p4 p5 : Pos} {m : Str} {j : Nat} {rest : List Stmt} {ar : Arg} {t : TS} {dV : Value} (F : SupAt P K mg name qual st dV f D fd) (S : NScope N ps ["__class__"] (defScope st)) (T : SupC K C D)
    (hb : defBody st = .Expr (.Call (.Attribute (.Call (.Name "super" p0) [] [] p1) "__init__" p2) [.Constant (.str m) j p3] [] p4) p5 :: rest) (hp : ((defArgs st).posonlyargs ++ (defArgs st).args).head? = some ar) (hps : ps[0]? = some ar.arg)
    (hks : (defScope st).names.lookup ("super" : Str) = some .globalImplicit) (hboot : bootBuiltins "super" = some (.type "super")) {pl : Sem Bool}
    (hev : ∀ env : Env, eval (.Call (.Attribute (.Call (.Name "super" p0) [] [] p1) "__init__" p2) [.Constant (.str m) j p3] [] p4) env = (do
      let ov ← attributeBase (.Call (.Name "super" p0) [] [] p1) "__init__" env (eval (.Call (.Name "super" p0) [] [] p1) env)
      standAt p2.atName
      let (f, first) ← holding [ov] (getMethod ov "__init__" pl)
      callWith p4 f first (backTo p4 (starEach [.Constant (.str m) j p3] env)) []))
    (hrest : ∀ (F : NF) (A : Around) (outer : List Env) (s : Shared) (H : Hp) (E : XK), F.scope = defScope st → PSs (ncx CX P w K mg base N F f A outer s H E) rest t) :
    FnOk P w K mg base CX (k + 1) f fd ps (fun vs H Q E => vs.length = ps.length ∧ ∃ a, vs[0]? = some (.ref a) ∧ H a = some (exo a C none) ∧ t { nx := fun _ H' => Q .non H', rt := Q } (startF N vs [none]) H) := by
  refine ⟨fun vs H Q E q => q.1, fun A outer s H args us vs Q E hr e0 hbind r hsp => ?_⟩
  obtain ⟨hl, a, ha0, hea, hq⟩ := hsp
  obtain ⟨oc, od, kV, doc, pm, an, cda, ct, osl, cc, rfl, lk, hcd, ⟨ccl, cdd, cvs, ccs, file, tf, hcode, hvs, hfile⟩, lcl, lcd, lsl, hcell⟩ := F.ex
  obtain ⟨cdD, hclsD⟩ := F.clsD
  obtain ⟨nm, q, N', bs, bm, sn, sub, ab, col, dd, k0, k1, k2, k3, k5, hC, hbm⟩ := T.o.cls
  have KX : K.In s.heap := e0.mod.kin.keeps fun b o e => (e0.bs b o e).1
  have lim : s.heap.NoLimit := e0.mod.nolimit.keeps fun b o e => (e0.bs b o e).1
  have hkind : ∀ y ∈ ps.zip us, (defScope st).names.lookup y.1 = some .local := fun y hy => S.par _ (List.of_mem_zip hy).1
  have hka : (defScope st).names.lookup ar.arg = some .local := S.par _ (List.mem_of_getElem? hps)
  have hkc : (defScope st).names.lookup ("__class__" : Str) = some .free := S.frk _ (List.mem_singleton_self _)
  obtain ⟨u0, hu0, ru0⟩ := r.get ha0
  obtain rfl : u0 = Value.ref a := ru0
  have ndP : ps.Nodup := by
    have q := S.nd.sublist (List.take_sublist (ps.length + 1) N)
    rw [show ps.length + 1 = ps.length + (["__class__"] : List Str).length from rfl, S.pre] at q
    exact (List.nodup_append.mp q).1
  refine ks_codeAny_call_defAt (fd := PySem.W.ksFn name qual (defArgs st) (defBody st) (defScope st) dV kV doc pm an (.ref cda) ct cc) (body := defBody st) (binds := ps.zip us) hr.depth (KX _ _ lk) rfl lim (PySem.W.codeRec_of KX hcd) rfl hbind S.nocell hkind (fun h₁ hns kp => ?_) S.co S.gen S.kind
  let FN : NF := ⟨name, qual, defArgs st, defBody st, defScope st, [("__class__", cc)], cda⟩
  have Ce : CellsAt FN.cl ["__class__"] [none] s.heap H := by
    have look : ∀ {y : Str} {c : Addr}, ([("__class__", cc)] : List (Str × Addr)).lookup y = some c → y = "__class__" ∧ c = cc := fun {y c} h => by
      have h' : (match y == ("__class__" : Str) with
        | true => some cc
        | false => none) = some c := h
      cases e : y == ("__class__" : Str) with
      | true => rw [e] at h'; cases h'; exact ⟨beq_iff_eq.mp e, rfl⟩
      | false => rw [e] at h'; cases h'
    have hb := e0.mod.kin _ _ hcell
    refine ⟨rfl, fun y c h => ?_, fun x y c h1 h2 => (look h1).1.trans (look h2).1.symm, fun i y h => ?_⟩
    · obtain ⟨_, rfl⟩ := look h
      exact ⟨(e0.bs _ _ hb).2, some (.ref D), _, (e0.bs _ _ hb).1, rfl⟩
    · cases i with
      | zero =>
        cases h
        exact ⟨cc, rfl, fun v h => by cases h⟩
      | succ i => cases h
  have I : Inv (ncx CX P w K mg base N FN f A outer s H E) [] (startF N vs [none]) H { s with heap := h₁, toks := s.toks + (ps.zip us).length } := inv_startN S hr.hd e0 hl r Ce hns kp
  have X1 : K.In h₁ := I.kIn
  have hself : (ps.zip us).reverse.lookup ar.arg = some (.ref a) := zip_look ndP hps hu0
  show _root_.PySem.wpAt (model P w) (A.deeper (envF FN f s.heap.objs.size)) (.func (defBody st) (envF FN f s.heap.objs.size)) (execs (defBody st) (envF FN f s.heap.objs.size)) _ _ _
  rw [show execs (defBody st) (envF FN f s.heap.objs.size) = execs (.Expr (.Call (.Attribute (.Call (.Name "super" p0) [] [] p1) "__init__" p2) [.Constant (.str m) j p3] [] p4) p5 :: rest) (envF FN f s.heap.objs.size) from by rw [hb]]
  obtain ⟨oD, hD1, hD2⟩ : ∃ oD, h₁.get? D = some oD ∧ oD.data = .cls cdD := by
    unfold PySem.W.clsIn at hclsD
    split at hclsD
    · rename_i c d cd' sl ho
      cases hclsD
      exact ⟨_, X1 _ _ ho, rfl⟩
    · cases hclsD
  obtain ⟨t1, hoa⟩ := exo_at I.hok hea
  obtain ⟨mb, bl1, bl2⟩ := I.mod.blt
  refine ks_wpAt_execs_cons (ks_wpAt_Expr_any (ks_wpAt_MethodCall (ks_wpAt_super_base (env := envF FN f s.heap.objs.size) hks hkc (by decide) rfl (X1 _ _ lk) rfl hp rfl (X1 _ _ hcode) rfl hvs hfile F.top ?_) (hev _)) (by show ((defScope st).kind == .module && _) = false; rw [S.kind]; rfl))
  refine PySem.W.ks_loadName_global S.kind hks (Calls.loadGlobal_builtin (env := envF FN f s.heap.objs.size) (e0.mod.glob.keeps I.bk) F.sup (bl1.keeps I.bk) ((bl2 "super" (by decide)).trans hboot) ⟨rfl, ?_⟩)
  refine wpAny_loadName_free S.kind hkc rfl ⟨_, X1 _ _ hcell, rfl⟩ ?_
  refine wpAny_loadName_local S.kind hka hns hself ?_
  refine ks_wpAny_isType_cls hD1 hD2 ⟨rfl, ?_⟩
  refine ks_wpAny_call_super hD1 hD2 hoa rfl (fun c e => by cases e) (PySem.W.looks_mroIn X1 T.sub) (fun h2 hso k2 => ?_)
  have I2 : Inv (ncx CX P w K mg base N FN f A outer s H E) [] (startF N vs [none]) H ⟨h2, s.gens, s.drawn, s.toks + (ps.zip us).length, s.os⟩ := I.kept (t' := s.toks + (ps.zip us).length) k2
  have X2 : K.In h2 := I2.kIn
  have hcl : PySem.W.clsIn K C = some { name := nm, bases := bs, mro := .ref C :: bm, ns := N', qualname := q, hasDict := true, slotNames := sn, subclasses := sub, abstract := ab, collection := col, hasDel := false } := by unfold PySem.W.clsIn; rw [hC] <;> rfl
  have hoa2 := k2 _ _ hoa
  have J2 : PySem.W.InstAt h2 a { cls := .ref C, dict := none, data := .fields #[.ref t1, .none, .none, .none, .bool false, .none] } C none := ⟨hoa2, rfl, rfl, trivial⟩
  have hI2 : PySem.W.Looks (model P w) h2 (isInstance (.ref a) (.type "ValueError")) true := J2.type.andThen (PySem.W.looks_subIn X2 T.ve)
  have hal := T.init
  unfold PySem.W.ks_superIn at hal
  rw [hcl] at hal
  refine PySem.W.kxs_getMethod PySem.W.kxs_ValueError hso (PySem.W.looks_opaque X2 F.opq) (l₀ := .ref C :: bm) (fun A Q E s k q => wpAny_bind ((PySem.W.looks_clsIn X2 hcl) A _ E s k (wpAny_pure q))) rfl X2 hal hI2 (PySem.W.ks_ne X2 J2 hcl) (by decide) ?_
  have he : starEach [.Constant (.str m) j p3] (envF FN f s.heap.objs.size) = (false, eval (.Constant (.str m) j p3) (envF FN f s.heap.objs.size)) :: starEach [] (envF FN f s.heap.objs.size) := by rfl
  rw [he]
  refine PySem.W.kxs_callWith (i := "ValueError.__init__") (x := a) rfl (Calls.evalArgs_plain (Calls.spliced_cons (Calls.Constant_str (k := j) (pos := p3) (Calls.spliced_nil ⟨?_, ?_⟩))))
  · exact Heap.get?_push_at rfl rfl
  have k3 : ∀ b o, h2.get? b = some o → (h2.push (PySem.W.kxs_mw "ValueError.__init__" a)).get? b = some o := fun b o e => Heap.get?_push_of_some _ e
  have I3 : Inv (ncx CX P w K mg base N FN f A outer s H E) [] (startF N vs [none]) H ⟨h2.push (PySem.W.kxs_mw "ValueError.__init__" a), s.gens, s.drawn, s.toks + (ps.zip us).length + 1 + 1, s.os⟩ := I2.kept (t' := s.toks + (ps.zip us).length + 1 + 1) k3
  refine call_mwVE (I3.kIn _ _ hC) (k3 _ _ hoa2) (Heap.get?_push_at rfl rfl) (by rw [sizeLine_eq]; exact Nat.le_of_ble_eq_true rfl) (fun h4 k4 ea4 => ?_)
  have I4 := I3.write (t' := s.toks + (ps.zip us).length + 1 + 1) (x := a) (e := a) (o := exo a C none) (by rw [hea]; exact True.intro) (.inl rfl) k4 ⟨_, ea4⟩ (exo_ok ea4)
  have eu : upd H a (exo a C none) = H := by
    funext b
    by_cases hb : b = a
    · rw [hb, upd_same, hea]
    · rw [upd_ne hb]
  rw [eu] at I4
  refine wpAt_of_wpAny (wpAny_mono ((hrest FN A outer s H E rfl).run [] _ (startF N vs [none]) H _ I4 hq) (fun fl s' hs => ?_) fun e s' hs => hs)
  have fin : ∀ {σ' : L2.St} {H' : Hp} {v : V} {u : Value}, Inv (ncx CX P w K mg base N FN f A outer s H E) [] σ' H' s' → L2.RelV v u → Q v H' → CE outer P w H s Q u s' :=
    fun {σ' H' v u} J rv q => ⟨v, H', J.os, J.bare, J.base, J.hok, rv, q⟩
  cases fl with
  | ret u =>
    obtain ⟨v, σ', H', J, rv, q⟩ := hs
    exact fin J rv q
  | next =>
    obtain ⟨σ', H', J, q⟩ := hs
    exact fin (v := V.non) (u := Value.none) J rfl q
  | brk =>
    obtain ⟨_, _, _, q⟩ := hs
    exact False.elim q
  | cont =>
    obtain ⟨_, _, _, q⟩ := hs
    exact False.elim q
theorem SupAt.binds {dV : Value} (F : SupAt P K mg name qual st dV f D fd)
    (h : ∀ (kV doc pm : Value) (an : Option Addr) (cdv ct : Value) (cc : Addr) (us : List Value), us.length = ps.length → bindArgs (PySem.W.ksFn name qual (defArgs st) (defBody st) (defScope st) dV kV doc pm an cdv ct cc) ⟨us, []⟩ = pure (ps.zip us)) : Binds K fd ps [] := by
  obtain ⟨oc, od, kV, doc, pm, an, cda, ct, osl, cc, rfl, lk, hcd, _⟩ := F.ex
  exact .all (h kV doc pm an _ ct cc)
/-- __init__(self, n): super().__init__(..); self.f = n -/
def spX (C : Addr) (f : Str) : Sp := fun vs H Q _ => ∃ (a : Addr) (y : V), vs = [.ref a, y] ∧ H a = some (exo a C none) ∧ ∀ dx, H dx = none → dx ≠ a → Q .non (upd (upd H dx (exd dx [(f, y)])) a (exo a C (some dx)))
theorem fnok_super1 {dV : Value} {p0 p1 p2 p3 p4 p5 p6 p7 p8 p9 : Pos} {m fl n : Str} {j : Nat} {ar : Arg} (F : SupAt P K mg name qual st dV f D fd) (S : NScope ["self", n, "__class__"] ["self", n] ["__class__"] (defScope st)) (T : SupC K C D) (hno : PySem.W.findIn K (.ref C) fl = some none)
    (hb : defBody st = [.Expr (.Call (.Attribute (.Call (.Name "super" p0) [] [] p1) "__init__" p2) [.Constant (.str m) j p3] [] p4) p5, .Assign [.Attribute (.Name "self" p6) fl p7] (.Name n p8) p9]) (hp : ((defArgs st).posonlyargs ++ (defArgs st).args).head? = some ar) (hps : ar.arg = "self")
    (hks : (defScope st).names.lookup ("super" : Str) = some .globalImplicit) (hboot : bootBuiltins "super" = some (.type "super")) {pl : Sem Bool}
    (hev : ∀ env : Env, eval (.Call (.Attribute (.Call (.Name "super" p0) [] [] p1) "__init__" p2) [.Constant (.str m) j p3] [] p4) env = (do
      let ov ← attributeBase (.Call (.Name "super" p0) [] [] p1) "__init__" env (eval (.Call (.Name "super" p0) [] [] p1) env)
      standAt p2.atName
      let (f, first) ← holding [ov] (getMethod ov "__init__" pl)
      callWith p4 f first (backTo p4 (starEach [.Constant (.str m) j p3] env)) []))
    (hsw : ∀ env : Env, env.scope = defScope st → swapsWith (.Name n p8) (some (.Attribute (.Name "self" p6) fl p7)) p9.line env = pure false) (hn1 : (n == ("__debug__" : Str)) = false) (hn2 : (n == ("__classdict__" : Str)) = false) :
    FnOk P w K mg base CX (k + 1) f fd ["self", n] (spX C fl) := by
  have F1 := fnok_super (CX := CX) (w := w) (base := base) (k := k) (ps := ["self", n]) F S T hb hp (by rw [hps]; rfl) hks hboot hev (t := tOst K fl (fun σ H Q => ∃ v, σ[0]? = some (some v) ∧ Q v H) (fun σ H Q => ∃ v, σ[1]? = some (some v) ∧ Q v H)) (fun FN A outer s H E hsc => by
    have vs0 : Vis FN.scope "self" := .inl (by rw [hsc]; exact S.par _ (by simp))
    have vs1 : Vis FN.scope n := .inl (by rw [hsc]; exact S.par _ (by simp))
    exact pss_one (ps_ost (X := ncx CX P w K mg base ["self", n, "__class__"] FN f A outer s H E) (pe_var (i := 0) rfl vs0 (by decide) (by decide)) (pe_var (i := 1) rfl vs1 hn1 hn2) (hsw _ hsc)))
  refine F1.imp fun vs H Q E ⟨a, y, ev, ea, q⟩ => ?_
  subst ev
  refine ⟨rfl, a, rfl, ea, y, rfl, .ref a, rfl, a, C, rfl, T.o, hno, .inl ⟨ea, fun dx h1 h2 => q dx h1 h2⟩⟩
end

/-! ### raise C(e), C's __init__ keeping one value -/
def SRaise1 (c : Nat) (f : Str) (A : Sl → Sto → R D) : Sl → Sto → RS := fun σ S => toS σ (A σ S) fun d S1 => .ex c [(f, d)] σ S1
theorem del_upd {H : Hp} {a dx : Addr} {o1 o2 o3 o4 : HO} (ha : H a = none) (hd : dx ≠ a) : upd (del (upd (upd (upd H a o1) dx o2) a o3) a) dx o4 = upd H dx o4 := by
  funext b
  by_cases h1 : b = dx
  · subst h1; rw [upd_same, upd_same]
  · rw [upd_ne h1, upd_ne h1]
    by_cases h2 : b = a
    · subst h2; rw [del_same, ha]
    · rw [del_ne h2, upd_ne h2, upd_ne h1, upd_ne h2]
theorem s_raise1 {X : Cx} {cl : Cl} {W : WX} {x f : Str} {c k : Nat} {fI : Addr} {fd : FuncData} {ps : List Str} {e : Expr} {A : Sl → Sto → R D} {p pos apos : Pos} (hc : X.calm = true) (tk : Takes X W) (T : OexC X.K (cl.xc c)) (iC : PySem.W.findIn X.K (.ref (cl.xc c)) "__init__" = some (some (.ref fI)))
    (tI : PySem.W.typeIn X.K (.ref fI) = some (.type "function")) (F : FnOk X.prog X.w X.K X.mg X.base (L2.CX X.prog X.w) k fI fd ps (spX (cl.xc c) f)) (hr : Room (k + 1) X.A) (hb : Binds X.K fd ps []) (hm : X.mg x = some (.ref (cl.xc c))) (ha : PE X e (tF (gx X cl) W A)) (hg : Gl X x := by rfl)
    (hdb : (x == ("__debug__" : Str)) = false := by decide) (hst : starEach [e] X.env = (false, eval e X.env) :: starEach [] X.env := by rfl) : PS X (.Raise (some (.Call (.Name x p) [e] [] pos)) none apos) (tS (gx X cl) W (SRaise1 c f A)) := by
  have hx : Passes (L2.CX X.prog X.w) X (fun _ _ _ => False) := fun pins σ H s e s' I ⟨_, _, _, _, _, _, _, _, _, _, _, _, z⟩ => z.elim
  refine PS.imp (ps_raise hc tk (pmk_oex T iC tI F hr hb .nil hx hg hm (pa_cons ha pa_nil hst) hdb hst rfl)) fun D σ H ⟨ρ, σd, S, rel, oo⟩ => ?_
  show tF (gx X cl) W A σ H _
  refine tG_toS rel oo fun d S1 y H1 ρ1 e1 rel1 t1 o1 => ?_
  refine ⟨by simp, fun a hna => ⟨a, y, rfl, upd_same, fun dx h1 h2 => ⟨rfl, dx, [(f, y)], upd_same, ?_, ?_, ?_⟩⟩⟩
  · rw [upd_ne h2, upd_same]
  · rw [upd_ne h2] at h1; exact h1
  · rw [upd_ne h2] at h1
    rw [del_upd hna h2]
    have ex : Ext (gx X cl) ρ1 ρ1 H1 (upd H1 dx (.xd [(f, y)])) := Ext.new h1
    exact o1 σ _ ρ1 _ _ ex (rel1.step ex (rel1.hp.side h1)) ⟨rfl, .inr ⟨dx, _, rfl, upd_same, y, [], rfl, t1.ext ex, rfl⟩⟩
end Mi
set_option Elab.async false
set_option autoImplicit false
set_option linter.all false
set_option maxRecDepth 100000
set_option maxHeartbeats 1000000
namespace Mi
open PySem L2

section
variable {P : Program} {w : World} {K : PySem.W.Frag} {mg : Str → Option Value} {base : Heap} {cl : Cl}
theorem spF_len {G : Ct} {np nn : Nat} {B : Sl → Sto → RS} {vs : List V} {H : Hp} {Q : VK} {E : XK} (h : spF G (mFn np nn B) vs H Q E) : vs.length = np := by
  obtain ⟨ρ, ds, S, rel, rv, o⟩ := h
  unfold mFn at o
  by_cases hl : ds.length = np
  · rw [← rv.length]; exact hl
  · rw [if_neg hl] at o; exact o.elim
theorem body_of {qual : Str} {sc : Scope} {f : Addr} {cdv : Value} {A : Around} {outer : List Env} {s : Shared} {N ps : List Str} {B : Sl → Sto → RS} {vs : List V} {H : Hp} {Q : VK} {E : XK} (h : spF ⟨K, cl⟩ (mFn ps.length N.length B) vs H Q E) :
    tS ⟨K, cl⟩ (fun cls d _ H => E cls d H) B { nx := fun _ H' => Q .non H', rt := Q } (start N vs) H := by
  obtain ⟨ρ, ds, S, rel, rv, o⟩ := h
  unfold mFn at o
  by_cases hl : ds.length = ps.length
  · rw [if_pos hl] at o
    refine ⟨ρ, padD N.length ds, S, rel_pad rel rv, ?_⟩
    cases e : B (padD N.length ds) S with
    | ok fl σ1 S1 =>
      rw [e] at o
      cases fl with
      | nx => exact fun σ' H' ρ' ex r => o .non H' ρ' ex r.hp rfl
      | rt d => exact fun σ' H' ρ' ex r v q => o v H' ρ' ex r.hp q
      | bk => exact o.elim
      | ct => exact o.elim
    | ex c fs σ1 S1 =>
      rw [e] at o
      exact fun σ' H' ρ' cls dd ex r x => o H' ρ' cls dd ex r.hp x
    | bad => rw [e] at o; exact o.elim
  · rw [if_neg hl] at o; exact o.elim
/-- a def with defaults -/
theorem fn_okD {x qual : Str} {st : Stmt} {dvs : List V} {f : Addr} {fd : FuncData} {N ps : List Str} {k : Nat} {B : Sl → Sto → RS} (F : FunD K x qual (defArgs st) (defBody st) (defScope st) dvs [] f fd) (S : FnScope N ps (defScope st))
    (hb : ∀ (cdv : Value) (A : Around) (outer : List Env) (s : Shared) (H : Hp) (E : XK), Room k (A.deeper (PyProof.Rows.envOfC qual (defScope st) s.heap.objs.size f cdv)) →
      Takes (cxOf (L2.CX P w) P w K mg base N qual (defScope st) f cdv A outer s H E) (fun cls d _ H => E cls d H) →
      PSs (cxOf (L2.CX P w) P w K mg base N qual (defScope st) f cdv A outer s H E) (defBody st) (tS ⟨K, cl⟩ (fun cls d _ H => E cls d H) B)) :
    FnOk P w K mg base (L2.CX P w) (k + 1) f fd ps (spF ⟨K, cl⟩ (mFn ps.length N.length B)) :=
  F.ok S (fun vs H Q E h => spF_len h) fun cdv A outer s H vs Q E hr h => ⟨_, hb cdv A outer s H E hr (takes_of rfl rfl rfl rfl), body_of (qual := qual) (sc := defScope st) (f := f) (cdv := cdv) (A := A) (outer := outer) (s := s) h⟩
def mDef (np : Nat) (d : D) (m : DN) : DN := fun ds S => if ds.length = np then m ds S else if ds.length + 1 = np then m (ds ++ [d]) S else .bad
theorem fnr_dflt {k : Nat} {f : Addr} {fd : FuncData} {ps : List Str} {m : DN} {d : D} {v : V} (F : FnOk P w K mg base (L2.CX P w) k f fd ps (spF ⟨K, cl⟩ m)) (hb : ∃ ds, Vals [] ds ∧ Binds K fd ps ds) (hd : ∃ ds, Vals [v] ds ∧ Binds K fd ps ds) (hv : ∀ ρ H, RV ⟨K, cl⟩ ρ H d v) :
    FnR P w K mg base (L2.CX P w) k f (spF ⟨K, cl⟩ (mDef ps.length d m)) := by
  intro A outer s H us vs Q E hr e0 r ⟨ρ, ds, S, rel, rv, o⟩
  obtain ⟨dd, h1, h2⟩ := hd
  obtain ⟨d0, g1, g2⟩ := hb
  cases g1
  unfold mDef at o
  by_cases hl : ds.length = ps.length
  · rw [if_pos hl] at o
    exact (F.raw g2 .nil) A outer s H us vs Q E hr e0 r (by show spF _ m (vs ++ []) H Q E; rw [List.append_nil]; exact ⟨ρ, ds, S, rel, rv, o⟩)
  · rw [if_neg hl] at o
    by_cases hl2 : ds.length + 1 = ps.length
    · rw [if_pos hl2] at o
      exact (F.raw h2 h1) A outer s H us vs Q E hr e0 r ⟨ρ, ds ++ [d], S, rel, rv.append (show RVs ⟨K, cl⟩ ρ H [d] [v] from ⟨v, [], rfl, hv ρ H, rfl⟩), o⟩
    · rw [if_neg hl2] at o; exact o.elim
/-- def f(a, .., *v) -/
def mStar (np : Nat) (m : DN) : DN := fun ds S => if np ≤ ds.length ∧ ds.length ≤ line then m (ds.take np ++ [.tup (ds.drop np)]) S else .bad
theorem fnr_star {x qual pv : Str} {st : Stmt} {f : Addr} {fd : FuncData} {N ps : List Str} {k : Nat} {B : Sl → Sto → RS} (F : Fun K x qual st f fd) (S : FnScope N (ps ++ [pv]) (defScope st))
    (hbi : ∀ (kV doc pm : Value) (an : Option Addr) (cdv ct : Value) (us rest : List Value), us.length = ps.length → bindArgs (PySem.W.fnOf x qual (defArgs st) (defBody st) (defScope st) .none kV doc pm an cdv ct) ⟨us ++ rest, []⟩ = (newTuple rest >>= fun t => pure (ps.zip us ++ [(pv, t)])))
    (hb : ∀ (cdv : Value) (A : Around) (outer : List Env) (s : Shared) (H : Hp) (E : XK), Room k (A.deeper (PyProof.Rows.envOfC qual (defScope st) s.heap.objs.size f cdv)) →
      Takes (cxOf (L2.CX P w) P w K mg base N qual (defScope st) f cdv A outer s H E) (fun cls d _ H => E cls d H) →
      PSs (cxOf (L2.CX P w) P w K mg base N qual (defScope st) f cdv A outer s H E) (defBody st) (tS ⟨K, cl⟩ (fun cls d _ H => E cls d H) B)) :
    FnR P w K mg base (L2.CX P w) (k + 1) f (spF ⟨K, cl⟩ (mStar ps.length (mFn (ps.length + 1) N.length B))) := by
  obtain ⟨oc, od, kV, doc, pm, an, cdv, ct, osl, rfl, lk, hcd⟩ := F.ex
  have G := StX.fn_star (CX := L2.CX P w) (mg := mg) (base := base) (k := k) (sp := spF ⟨K, cl⟩ (mFn (ps ++ [pv]).length N.length B)) lk hcd S StX.cxUp (hbi kV doc pm an cdv ct) (fun A outer s H vs Q E hr h => ⟨_, hb cdv A outer s H E hr (takes_of rfl rfl rfl rfl), body_of (qual := qual) (sc := defScope st) (f := f) (cdv := cdv) (A := A) (outer := outer) (s := s) h⟩)
  refine G.imp fun vs H Q E ⟨ρ, ds, S, rel, rv, o⟩ => ?_
  unfold mStar at o
  by_cases hl : ps.length ≤ ds.length ∧ ds.length ≤ line
  · rw [if_pos hl] at o
    have lv := rv.length
    refine ⟨vs.take ps.length, vs.drop ps.length, (List.take_append_drop _ _).symm, by rw [List.length_take]; omega, by rw [List.length_drop]; exact Nat.le_trans (Nat.sub_le _ _) (by rw [← lv]; exact line_le hl.2), fun p hp => ?_⟩
    have ex : Ext ⟨K, cl⟩ ρ ρ H (upd H p (.tup (vs.drop ps.length))) := Ext.new hp
    refine ⟨ρ, ds.take ps.length ++ [.tup (ds.drop ps.length)], S, rel.side hp, ?_, ?_⟩
    · exact ((rv.take _).ext ex).append (show RVs ⟨K, cl⟩ ρ _ [.tup (ds.drop ps.length)] [.ref p] from ⟨_, [], rfl, ⟨p, _, rfl, SqT.of upd_same, (rv.drop _).ext ex⟩, rfl⟩)
    · have o' := Out.mono ex o
      rw [List.length_append, List.length_singleton]
      exact o'
  · rw [if_neg hl] at o; exact o.elim
end
end Mi
set_option Elab.async false
set_option autoImplicit false
set_option linter.all false
set_option maxRecDepth 100000
set_option maxHeartbeats 1000000
namespace Mi
open PySem L2 PyProof.Rows

/-! ### a clause of a comprehension without tests, what is done at each item as an action -/
/-- an action in the context Y -/
structure PAct (Y : Cx) (act : Sem Unit) (t : L2.St → Hp → (L2.St → Hp → Prop) → Prop) : Prop where
  run : ∀ (pins : List (Addr × Obj)) (s : Shared) (σ : L2.St) (H : Hp) (Q : L2.St → Hp → Prop), Inv Y pins σ H s → t σ H Q → wpAny (model Y.prog Y.w) Y.A act (fun _ s' => ∃ σ' H', Inv Y pins σ' H' s' ∧ Q σ' H') Y.xe s
/-- one turn as the program has it -/
def TurnIs (e : Expr) (k : Nat) (tg : Expr) (p : Pos) (it acc : Value) (env : Env) (act : Sem Unit) : Prop :=
  compTurn e k it acc env = (standAt p >>= fun _ => pyNext it >>= fun r => match r with
    | none => pure (.done .next)
    | some v => letOwnedTupleGo tg it v >>= fun _ => assign tg env v >>= fun _ => act >>= fun _ => again (.compLoop e k it acc env))
theorem clause {Y : Cx} {e tg elt : Expr} {gens : List Comprehension} {scope : Scope} {pos : Pos} {k : Nat} (he : e = .SetComp elt gens scope pos) {p : Pos} {it : Addr} {acc : Value} {act : Sem Unit} {pins : List (Addr × Obj)} {σ : L2.St} {H : Hp} {s : Shared} {fp : List Addr} {tn : Nat → Heap → Prop} {J : It} {g : TG} {t : L2.St → Hp → (L2.St → Hp → Prop) → Prop} {vs : List Nat} {R : Result → Shared → Prop} {Nd : Hp → Prop}
    (hc : Y.calm = true) (hx : Y.xe = fun _ _ => False) (ht : TurnIs e k tg p (.ref it) acc Y.env act) (I : Inv Y pins (wipe σ vs) H s) (T : Turn Y.prog Y.w Y.K tg J fp it tn) (st : tn 0 s.heap) (f : ∀ b ∈ fp, FpOk Y pins H b) (pg : PG Y tg g) (pa : PAct Y act t)
    (Wf : Nat → Nat → Hp → Prop) (m0 : Nat) (w0 : Wf 0 m0 H)
    (turn : ∀ i m H, Wf i m H → (J.stop i H ∧ Nd H) ∨ (J.go i H ∧ ∃ Nx : Hp → Prop, (∀ H', Nx H' → ∃ m', m' < m ∧ Wf (i + 1) m' H') ∧ ∀ x H', J.yld i H x H' → g x (wipe σ vs) H' fun σ2 H2 => t σ2 H2 fun σ3 H3 => (wipe σ vs).length = σ3.length ∧ (∀ (j : Nat) v, (wipe σ vs)[j]? = some (some v) → σ3[j]? = some (some v)) ∧ Nx H3))
    (hR : ∀ s' H', Inv Y pins (wipe σ vs) H' s' → Nd H' → R (.ok .next) s') : codeAny (model Y.prog Y.w) Y.A (.compLoop e k (.ref it) acc Y.env) R s := by
  have still : ∀ {H' : Hp}, (∀ b ∈ fp, H' b = none) → ∀ b ∈ fp, FpOk Y pins H' b := fun n b hb => ⟨n b hb, (f b hb).2⟩
  subst he
  refine codeAny_loop rfl (fun n s' => ∃ i H', Inv Y pins (wipe σ vs) H' s' ∧ tn i s'.heap ∧ (∀ b ∈ fp, H' b = none) ∧ Wf i n H') (fun n s1 ⟨i, H1, I1, st1, n1, w1⟩ => ?_) m0 ⟨0, H, I, st, fun b hb => (f b hb).1, w0⟩
  show wpAny _ Y.A ((compTurn (.SetComp elt gens scope pos) k (.ref it) acc Y.env).onRaise fun x => do noteFrame x Y.env; theTreesLotGoes x) _ _ s1
  refine wpAny_noted ?_
  rw [show compTurn (.SetComp elt gens scope pos) k (.ref it) acc Y.env = _ from ht]
  refine wpAny_bind (wpAny_standAt (wpAny_bind ?_))
  rcases turn i n H1 w1 with ⟨hs, nd⟩ | ⟨go, Nx, hNx, step⟩
  · refine thnF (T.done Y rfl rfl rfl hc i pins s1 _ H1 (fun _ _ => False) I1 (still n1) st1 hs) fun r s2 ⟨hr, I2⟩ => ?_
    subst hr
    exact wpAny_pure (hR s2 H1 I2 nd)
  · refine thnF (T.item Y rfl rfl rfl hc i pins s1 _ H1 (fun _ _ => False) I1 (still n1) st1 go) fun r s2 ⟨u, hr, h2⟩ => ?_
    subst hr
    refine wpAny_bind (thnF h2 fun _ s3 ⟨x, H3, I3, r3, y3, st3, n3⟩ => ?_)
    have P3 := I3.pinned (still n3) (T.obj _ _ st3)
    have q3 := pg.run _ s3 _ H3 x u _ P3 r3 (step x H3 y3)
    rw [hx] at q3
    refine wpAny_bind (thnF q3 fun _ s4 ⟨σ4, H4, I4, q4⟩ => ?_)
    have q5 := pa.run _ s4 σ4 H4 _ I4 q4
    rw [hx] at q5
    refine wpAny_bind (thnF q5 fun _ s5 ⟨σ5, H5, I5, hl, hk, nx⟩ => ?_)
    obtain ⟨m', hm, w'⟩ := hNx H5 nx
    have pin : ∀ b ∈ fp, ∀ o, s3.heap.get? b = some o → s5.heap.get? b = some o ∧ H5 b = none := fun b hb o eo =>
      have z := I5.pin (b, o) (List.mem_append_right _ (List.mem_append_right _ (mem_pinsAt hb eo)))
      ⟨z.1, z.2.1⟩
    refine wpAny_pure ⟨rfl, m', hm, i + 1, H5, I5.unpinned.weak hl hk, T.keep _ _ _ st3 fun b hb o eo => (pin b hb o eo).1, fun b hb => ?_, w'⟩
    obtain ⟨o, eo, _⟩ := T.obj _ _ st3 b hb
    exact (pin b hb o eo).2

/-! ### {elt for t0 in i0 for t1 in i1} of ints -/
section
variable {elt t0 i0 t1 i1 : Expr} {scope : Scope} {pos : Pos} {acc : Value} {it : Addr} {env : Env}
abbrev sc2E (elt t0 i0 t1 i1 : Expr) (scope : Scope) (pos : Pos) : Expr := .SetComp elt [⟨t0, i0, [], 0⟩, ⟨t1, i1, [], 0⟩] scope pos
def actIn (elt : Expr) (acc : Value) (env : Env) : Sem Unit := eval elt env >>= fun v => standAt elt.pos >>= fun _ => call (.builtin "set.add") [acc, v] >>= fun _ => pure ()
def actOut (elt t0 i0 t1 i1 : Expr) (scope : Scope) (pos : Pos) (acc : Value) (env : Env) : Sem Unit :=
  eval i1 env >>= fun x => standAt i1.pos >>= fun _ => foldedSetIterable i1 env x >>= fun x => holding [x] (pyIter x) >>= fun it1 => runOwn (.compStart (sc2E elt t0 i0 t1 i1 scope pos) 1 it1 acc env) env >>= fun _ => pure ()
theorem turn_in : TurnIs (sc2E elt t0 i0 t1 i1 scope pos) 1 t1 i1.pos (.ref it) acc env (actIn elt acc env) := by
  unfold TurnIs actIn; rfl
theorem turn_out : TurnIs (sc2E elt t0 i0 t1 i1 scope pos) 0 t0 i0.pos (.ref it) acc env (actOut elt t0 i0 t1 i1 scope pos acc env) := by
  unfold TurnIs actOut
  simp only [bind_assoc, pure_bind]
  rfl
end

section
variable {Y : Cx} {elt t0 i0 t1 i1 : Expr} {scope : Scope} {pos : Pos} {D : Addr} {te : TE} {g1 : TG} {wi1 : TI} {vs1 : List Nat}
/-- an int is added to the set at D -/
def tSet (w : World) (D : Addr) (te : TE) : L2.St → Hp → (L2.St → Hp → Prop) → Prop := fun σ H Q => te σ H fun y H1 => ∃ (c : Int) (S : Int → Bool) (n : Nat), y = .int c ∧ H1 D = some (SetO w D S n) ∧ n + 1 < scanBound ∧ Q σ (upd H1 D (SetO w D (fun j => S j || decide (j = c)) (if S c = true then n else n + 1)))
theorem pa_in (pe : PE Y elt te) : PAct Y (actIn elt (.ref D) Y.env) (tSet Y.w D te) := ⟨fun pins s σ H Q I h => by
  refine wpAny_bind (thn (pe.run pins s σ H _ I h) fun v s1 ⟨y, H1, I1, r1, c, S, n, ey, ed, room, q⟩ => ?_)
  subst ey
  refine wpAny_bind (wpAny_standAt (wpAny_bind (thn (mt_sadd (X := Y) pins s1 σ H1 (.ref D) [.int c] (.ref D) [v] (fun _ H2 => Q σ H2) I1 rfl (.cons r1 .nil) ⟨D, c, S, n, rfl, rfl, ed, room, q⟩) fun _ s2 ⟨_, H2, I2, _, q2⟩ => wpAny_pure ⟨σ, H2, I2, q2⟩)))⟩
/-- the second clause's loop -/
def tIn (w : World) (D : Addr) (wi1 : TI) (g1 : TG) (te : TE) (vs1 : List Nat) : L2.St → Hp → (L2.St → Hp → Prop) → Prop := fun σ H Q => wi1 σ H fun J H1 => ∃ (Wf : Nat → Nat → Hp → Prop) (m0 : Nat), Wf 0 m0 H1 ∧
  ∀ i m H, Wf i m H → (J.stop i H ∧ Q (wipe σ vs1) H) ∨ (J.go i H ∧ ∃ Nx : Hp → Prop, (∀ H', Nx H' → ∃ m', m' < m ∧ Wf (i + 1) m' H') ∧ ∀ x H', J.yld i H x H' → g1 x (wipe σ vs1) H' fun σ2 H2 => tSet w D te σ2 H2 fun σ3 H3 => (wipe σ vs1).length = σ3.length ∧ (∀ (j : Nat) v, (wipe σ vs1)[j]? = some (some v) → σ3[j]? = some (some v)) ∧ Nx H3)
theorem start_in {A : Around} {prog : Program} {w : World} {it : Addr} {acc : Value} {env : Env} {R : Result → Shared → Prop} {s : Shared} (h0 : codeAny (model prog w) A (.compLoop (sc2E elt t0 i0 t1 i1 scope pos) 1 (.ref it) acc env) R s)
    (hself : ∀ (Q : Value → Shared → Prop) (E : Value → Shared → Prop), Q (.ref it) s → wpAny (model prog w) A (pyIter (.ref it)) Q E s) : codeAny (model prog w) A (.compStart (sc2E elt t0 i0 t1 i1 scope pos) 1 (.ref it) acc env) R s := by
  refine codeAny_of_tree ?_
  show wpAny _ _ ((compStart (sc2E elt t0 i0 t1 i1 scope pos) 1 (.ref it) acc env).onRaise fun x => do noteFrame x env; standAt theWindowsPlace) _ _ s
  refine wpAny_notedAt ?_
  unfold compStart
  refine wpAny_bind (wpAny_askSetting (wpAny_ite ?_))
  split
  · exact wpAny_pure ⟨rfl, h0⟩
  · refine wpAny_bind (wpAny_rule ?_)
    show wpAny _ _ (standAt i1.pos >>= _) _ _ s
    exact wpAny_bind (wpAny_standAt (wpAny_bind (hself _ _ (wpAny_pure ⟨rfl, h0⟩))))
theorem pa_out (hc : Y.calm = true) (hx : Y.xe = fun _ _ => False) (pi : PI Y t1 i1 wi1) (pg : PG Y t1 g1) (pe : PE Y elt te) (hs : ∀ x, foldedSetIterable i1 Y.env x = pure x) : PAct Y (actOut elt t0 i0 t1 i1 scope pos (.ref D) Y.env) (tIn Y.w D wi1 g1 te vs1) := ⟨fun pins s σ H Q I h => by
  have q0 := pi.run pins s σ H _ I h
  refine wpAny_bind (thn q0 fun x s1 q1 => ?_)
  refine wpAny_bind (wpAny_standAt (wpAny_bind (wpAny_of_eq (hs x) (wpAny_bind (wpAny_holding (thn q1 fun itv s2 q2 => ?_))))))
  obtain ⟨it, fp, tn, J, H2, e, I2, T, st, f, Wf, m0, w0, turn⟩ := q2
  subst e
  refine wpAny_bind (wpAny_runOwn ?_)
  rw [Around.mark_none]
  have lp := clause (Y := Y) (e := sc2E elt t0 i0 t1 i1 scope pos) (vs := vs1) (σ := σ) (H := H2) (s := s2) (pins := pins) (Nd := fun H' => Q (wipe σ vs1) H') (R := fun r s' => match r with
      | .ok _ => ∃ σ' H', Inv Y pins σ' H' s' ∧ Q σ' H'
      | .error _ => False) rfl hc hx turn_in (I2.weak (wipe_length _ _) fun j v z => (wipe_some z).1) T st f pg (pa_in pe) Wf m0 w0 turn (fun s' H' I' q => ⟨_, H', I', q⟩)
  refine codeAny_mono (start_in lp (T.self Y.A 0 s2 · · st)) fun r s' hr => ?_
  cases r with
  | ok _ => exact wpAny_pure hr
  | error _ => exact hr.elim⟩
end

section
variable {X : Cx} {elt t0 i0 t1 i1 : Expr} {scope : Scope} {own : List (Str × Nat)} {pos : Pos} {wi : TI} {g : TG} {ta : Addr → L2.St → Hp → (L2.St → Hp → Prop) → Prop}
def tSc2 (w : World) (wi : TI) (g : TG) (ta : Addr → L2.St → Hp → (L2.St → Hp → Prop) → Prop) (vs : List Nat) : TE := fun σ H Q => wi σ H fun J H1 => ∀ D, H1 D = none → ∃ (Wf : Nat → Nat → Hp → Prop) (m0 : Nat), Wf 0 m0 (upd H1 D (SetO w D (fun _ => false) 0)) ∧
  ∀ i m H, Wf i m H → (J.stop i H ∧ Q (.ref D) H) ∨ (J.go i H ∧ ∃ Nx : Hp → Prop, (∀ H', Nx H' → ∃ m', m' < m ∧ Wf (i + 1) m' H') ∧ ∀ x H', J.yld i H x H' → g x (wipe σ vs) H' fun σ2 H2 => ta D σ2 H2 fun σ3 H3 => (wipe σ vs).length = σ3.length ∧ (∀ (j : Nat) v, (wipe σ vs)[j]? = some (some v) → σ3[j]? = some (some v)) ∧ Nx H3)
theorem pe_sc2 (hc : X.calm = true) (hN : X.N.Nodup) (hi : PI X t0 i0 wi) (ok : BlkOk X.N X.env.scope scope own)
    (hg : ∀ (s : Shared) (H : Hp) (C : Addr) (cl : List (Str × Addr)) (fp : List Addr), PG (X.blk s H scope (compEnvC scope cl C X.env) fp) t0 g)
    (hact : ∀ (s : Shared) (H : Hp) (C : Addr) (cl : List (Str × Addr)) (fp : List Addr) (D : Addr), PAct (X.blk s H scope (compEnvC scope cl C X.env) fp) (actOut elt t0 i0 t1 i1 scope pos (.ref D) (compEnvC scope cl C X.env)) (ta D))
    (hs : ∀ x, foldedSetIterable i0 X.env x = pure x := by intro _; rfl) : PE X (sc2E elt t0 i0 t1 i1 scope pos) (tSc2 X.w wi g ta (own.map (·.2))) := ⟨fun pins s σ H Q I h => by
  have cells : ∀ y ∈ scope.names, y.2 = .free → ∃ c, X.env.cells.lookup y.1 = some c := fun y hy e => I.ok.has _ (ok.free y hy e)
  rw [show sc2E elt t0 i0 t1 i1 scope pos = .SetComp elt [⟨t0, i0, [], 0⟩, ⟨t1, i1, [], 0⟩] scope pos from rfl, PpSet.eval_SetComp]
  refine wpAny_comprehension_free (use := none) rfl hs (closure_ok cells) ok.kind (fun y hy e => by rw [ok.uniq y hy, e]) (thn (hi.run pins s σ H _ I h) fun xv s1 hx => thn hx fun itv s2 ⟨it, fp, tn, J, H2, e, I2, T, st, f, q⟩ => ?_)
  subst e
  refine PpSet.newSet_ok (newEnv_comp ?_)
  have hD : H2 s2.heap.objs.size = none := I2.hok.fresh (Nat.le_refl _)
  obtain ⟨Wf, m0, w0, turn⟩ := q _ hD
  generalize hn : (s2.heap.push { cls := .type "set", dict := none, data := .set #[] 0 (.fresh 0 0 (!X.w.params.followText "set-order")) }) = h3 at *
  have kp : ∀ b o, s2.heap.get? b = some o → h3.get? b = some o := fun b o eo => by rw [← hn]; exact Heap.get?_push_of_some _ eo
  have I3 : Inv X pins σ (upd H2 s2.heap.objs.size (SetO X.w s2.heap.objs.size (fun _ => false) 0)) { s2 with heap := h3 } := I2.laid (t' := s2.toks) kp (Nat.le_refl _) (by rw [← hn]; exact setO_new (setR_fresh X.w))
  generalize hDn : s2.heap.objs.size = D at *
  generalize hH : upd H2 D (SetO X.w D (fun _ => false) 0) = H3 at *
  have here : ∀ b ∈ fp, b < D ∧ b < h3.objs.size := fun b hb => by
    obtain ⟨o, eo, _⟩ := T.obj _ _ st b hb
    exact ⟨by rw [← hDn]; exact Heap.lt_size eo, Heap.lt_size (kp _ _ eo)⟩
  have f3 : ∀ b ∈ fp, FpOk X pins H3 b ∧ b < ({ s2 with heap := h3 } : Shared).heap.objs.size := fun b hb => ⟨⟨by rw [← hH, upd_ne (Nat.ne_of_lt (here b hb).1)]; exact (f b hb).1, (f b hb).2⟩, (here b hb).2⟩
  have I4 := block_start I3 ok hN f3
  have sb : ∀ b ∈ fp, FpOk (X.blk { s2 with heap := h3 } H3 scope (compEnvC scope (cellsFrom (h3.objs.size + 1) scope.names (cloFrom X.env.cells scope.names [])) h3.objs.size X.env) fp) [] H3 b := fun b hb =>
    ⟨(f3 b hb).1.1, (I4.ok.exf b hb).1, I4.ok.exfs b hb, .inl hb, fun x c z => (I4.ok.exf b hb).2 x c z, fun p hp => absurd hp (by simp)⟩
  have st4 := T.keep _ _ (pushCells (h3.push { cls := .type "dict", data := .dict #[] }) scope.names) st fun b _ o eo => pushCells_keeps _ _ _ _ (Heap.get?_push_of_some _ (kp _ _ eo))
  have lp := clause (Y := X.blk { s2 with heap := h3 } H3 scope (compEnvC scope (cellsFrom (h3.objs.size + 1) scope.names (cloFrom X.env.cells scope.names [])) h3.objs.size X.env) fp) (e := sc2E elt t0 i0 t1 i1 scope pos) (acc := .ref D) (vs := own.map (·.2)) (Nd := fun H' => Q (.ref D) H')
    (R := compPost (model X.prog X.w) X.A X.xe none (EP X pins σ Q) (.ref D) h3.objs.size) rfl hc rfl turn_out I4 T st4 sb (hg _ _ _ _ _) (hact _ _ _ _ _ _) Wf m0 w0 turn (fun s' H' I' q' => ?_)
  · exact PpSet.codeAny_compStart_set lp (T.self X.A 0 _ _ _ st4 lp)
  · have I7 : Inv X pins σ H' s' := I3.call' (ch := fp) I'.os I'.base I'.hok I'.bare fun b hb => ⟨(f3 b hb).1.2.2.2.1, (f3 b hb).1.2.1, (f3 b hb).1.2.2.2.2.1, (f3 b hb).1.2.2.2.2.2⟩
    have nC : H' h3.objs.size = none := I'.free
    obtain ⟨m, hm, _⟩ := I'.loc
    obtain ⟨f0, f1, _, f3', f4, f5⟩ := I3.fpOk (Nat.le_refl _) nC
    exact ⟨m, hm, fun h'' same => ⟨.ref D, H', I7.turned (t' := s'.toks) (fun b o hb eo => (same.2 b hb).trans eo) f0 f1 f3' f4 f5, rfl, q'⟩⟩⟩
end
end Mi
set_option Elab.async false
set_option autoImplicit false
set_option linter.all false
set_option maxRecDepth 100000
set_option maxHeartbeats 1000000
namespace Mi
open PySem L2

/-! ### sorted({k for c in contents for k in c}), contents a tuple of dicts whose keys are ints -/
def insU (i : Int) : List Int → List Int
  | [] => [i]
  | j :: r => if i < j then i :: j :: r else if i = j then j :: r else j :: insU i r
def sortU : List Int → List Int
  | [] => []
  | i :: r => insU i (sortU r)
theorem insU_mem (i : Int) : ∀ (l : List Int) (k : Int), k ∈ insU i l ↔ k = i ∨ k ∈ l
  | [], k => by simp [insU]
  | j :: r, k => by
    unfold insU
    by_cases h : i < j
    · rw [if_pos h]; simp
    · rw [if_neg h]
      by_cases e : i = j
      · rw [if_pos e]; subst e; simp
      · rw [if_neg e, List.mem_cons, List.mem_cons, insU_mem i r k]
        constructor
        · rintro (h | h | h)
          · exact .inr (.inl h)
          · exact .inl h
          · exact .inr (.inr h)
        · rintro (h | h | h)
          · exact .inr (.inl h)
          · exact .inl h
          · exact .inr (.inr h)
theorem insU_pw (i : Int) : ∀ l : List Int, l.Pairwise (· < ·) → (insU i l).Pairwise (· < ·)
  | [], _ => by simp [insU]
  | j :: r, h => by
    rw [List.pairwise_cons] at h
    unfold insU
    by_cases hl : i < j
    · rw [if_pos hl, List.pairwise_cons, List.pairwise_cons]
      refine ⟨fun x hx => ?_, h⟩
      rcases List.mem_cons.mp hx with e | hx
      · rw [e]; exact hl
      · have := h.1 x hx; omega
    · rw [if_neg hl]
      by_cases e : i = j
      · rw [if_pos e, List.pairwise_cons]; exact h
      · rw [if_neg e, List.pairwise_cons]
        refine ⟨fun x hx => ?_, insU_pw i r h.2⟩
        rcases (insU_mem i r x).mp hx with e2 | hx
        · omega
        · exact h.1 x hx
theorem sortU_mem : ∀ (l : List Int) (k : Int), k ∈ sortU l ↔ k ∈ l
  | [], k => by simp [sortU]
  | i :: r, k => by
    unfold sortU
    rw [insU_mem, sortU_mem r k, List.mem_cons]
theorem sortU_pw : ∀ l : List Int, (sortU l).Pairwise (· < ·)
  | [] => List.Pairwise.nil
  | i :: r => insU_pw i _ (sortU_pw r)
theorem pw_same : ∀ {a b : List Int}, a.Pairwise (· < ·) → b.Pairwise (· < ·) → (∀ k, k ∈ a ↔ k ∈ b) → a = b
  | [], [], _, _, _ => rfl
  | [], y :: b, _, _, h => absurd ((h y).mpr List.mem_cons_self) List.not_mem_nil
  | x :: a, [], _, _, h => absurd ((h x).mp List.mem_cons_self) List.not_mem_nil
  | x :: a, y :: b, ha, hb, h => by
    rw [List.pairwise_cons] at ha hb
    have e : x = y := by
      rcases List.mem_cons.mp ((h x).mp List.mem_cons_self) with e | h1
      · exact e
      · rcases List.mem_cons.mp ((h y).mpr List.mem_cons_self) with e | h2
        · exact e.symm
        · have := ha.1 y h2
          have := hb.1 x h1
          omega
    subst e
    rw [pw_same ha.2 hb.2 fun k => ?_]
    have q := h k
    rw [List.mem_cons, List.mem_cons] at q
    constructor
    · intro hk
      rcases q.mp (.inr hk) with e | z
      · exact absurd (ha.1 k hk) (by omega)
      · exact z
    · intro hk
      rcases q.mpr (.inr hk) with e | z
      · exact absurd (hb.1 k hk) (by omega)
      · exact z
def keysI : List (Key × D) → Option (List Int)
  | [] => some []
  | p :: r => match p.1 with
    | .inl i => (keysI r).map (i :: ·)
    | .inr _ => none
def contKeys (S : Sto) : List D → Option (List Int)
  | [] => some []
  | .loc n :: r => match S[n]? with
    | some (.dct false kvs) => match keysI kvs with
      | some ks => (contKeys S r).map (ks ++ ·)
      | none => none
    | _ => none
  | _ :: _ => none
def FSS (A : Sl → Sto → R D) : Sl → Sto → R D := fun σ S => (A σ S).to fun d S1 => match d with
  | .tup ds => match contKeys S1 ds with
    | some ks => if ks.length < 60 ∧ ds.length < 60 then .ok (.loc S1.length) (S1 ++ [.lst ((sortU ks).map D.int)]) else .bad
    | none => .bad
  | _ => .bad
theorem keysI_of {G : Ct} {ρ : List Addr} {H : Hp} : ∀ {kvs : List (Key × D)} {us : List (Key × V)} {ks : List Int}, keysI kvs = some ks → RKs G ρ H kvs us → us.map (·.1) = ks.map Sum.inl
  | [], _, _, h, r => by cases h; cases r; rfl
  | p :: kvs, _, _, h, r => by
    obtain ⟨v, us, rfl, _, r2⟩ := r
    unfold keysI at h
    split at h
    · rename_i i e
      cases e2 : keysI kvs with
      | none => rw [e2] at h; cases h
      | some ks =>
        rw [e2] at h
        cases h
        rw [List.map_cons, List.map_cons, e, keysI_of e2 r2]
    · cases h

/-! ### the second clause over a dict -/
section
variable {Y : Cx} {t0 i0 : Expr} {scope : Scope} {pos : Pos} {D : Addr} {j0 j1 : Nat} {c k : Str} {p1 p2 p3 : Pos}
/-- members: S, and the ints of ks -/
def memU (S : Int → Bool) (ks : List Int) : Int → Bool := fun i => S i || decide (i ∈ ks)
def tDict (w : World) (D : Addr) (j0 j1 : Nat) : L2.St → Hp → (L2.St → Hp → Prop) → Prop := fun σ H Q => ∃ (a : Addr) (u : List (Key × V)) (ks : List Int) (S : Int → Bool) (n : Nat), σ[j0]? = some (some (.ref a)) ∧ j0 ≠ j1 ∧ j1 < σ.length ∧ H a = some (.dK u) ∧ u.map (·.1) = ks.map Sum.inl ∧ D ≠ a ∧ H D = some (SetO w D S n) ∧ n + ks.length + 1 < scanBound ∧
  ∀ (S' : Int → Bool) (n' : Nat), (∀ i, S' i = memU S ks i) → n' ≤ n + ks.length → Q (wipe σ [j1]) (upd H D (SetO w D S' n'))
theorem pa_dict (hc : Y.calm = true) (hx : Y.xe = fun _ _ => False) (hN : Y.N.Nodup) (h0 : Y.N[j0]? = some c) (h1 : Y.N[j1]? = some k) (v0 : Vis Y.env.scope c) (v1 : Vis Y.env.scope k) (l1 : Loc Y.env.scope k) (hfn : Y.fn k = true ∨ Y.env.scope.names.lookup k = some .local)
    (d0 : (c == ("__debug__" : Str)) = false) (d0' : (c == ("__classdict__" : Str)) = false) (d1 : (k == ("__debug__" : Str)) = false) (d1' : (k == ("__classdict__" : Str)) = false) :
    PAct Y (actOut (.Name k p1) t0 i0 (.Name k p2) (.Name c p3) scope pos (.ref D) Y.env) (tDict Y.w D j0 j1) := ⟨fun pins s σ H Q I ⟨a, u, ks, S, n, hs0, hj, hl1, ha, hks, hDa, hD, room, q⟩ => by
  obtain ⟨od, I1⟩ := I.lock ha trivial
  have po := pa_out (Y := Y) (elt := .Name k p1) (t0 := t0) (i0 := i0) (t1 := .Name k p2) (i1 := .Name c p3) (scope := scope) (pos := pos) (D := D) (vs1 := [j1]) hc hx (pi_keys (pe_var h0 v0 d0 d0')) (pg_name hN h1 l1 hfn) (pe_var h1 v1 d1 d1') (fun _ => rfl)
  have hlen : u.length = ks.length := by
    have := congrArg List.length hks
    simpa using this
  have fa : upd H a (.frz od (.dK u)) a = some (.frz od (.dK u)) := upd_same
  refine thn (po.run pins s σ _ (fun σ' H' => H' a = some (.frz od (.dK u)) ∧ Q σ' (upd H' a (.dK u))) I1 ?_) fun _ s1 ⟨σ', H', I', e, q'⟩ => ⟨σ', _, I'.unlock e (I.nofrz ha trivial), q'⟩
  refine ⟨.ref a, hs0, a, od, rfl, .inl ⟨u, fa, ?_⟩⟩
  refine ⟨fun i m H1 => m = u.length - i ∧ i ≤ u.length ∧ ∃ S' n', H1 = upd (upd H a (.frz od (.dK u))) D (SetO Y.w D S' n') ∧ n' ≤ n + i ∧ ∀ x, S' x = memU S (ks.take i) x, u.length, ⟨rfl, Nat.zero_le _, S, n, ?_, Nat.le_refl _, fun x => by simp [memU]⟩, ?_⟩
  · funext b
    by_cases hb : b = D
    · rw [hb, upd_same, upd_ne hDa, hD]
    · rw [upd_ne hb]
  rintro i m H1 ⟨rfl, hi, S', n', rfl, hn', hS⟩
  have fz : upd (upd H a (.frz od (.dK u))) D (SetO Y.w D S' n') a = some (.frz od (.dK u)) := by rw [upd_ne (Ne.symm hDa), upd_same]
  by_cases hlt : i < u.length
  · refine .inr ⟨⟨fz, hlt⟩, fun H2 => ∃ S2 n2, H2 = upd (upd H a (.frz od (.dK u))) D (SetO Y.w D S2 n2) ∧ n2 ≤ n + (i + 1) ∧ ∀ x, S2 x = memU S (ks.take (i + 1)) x, fun H2 ⟨S2, n2, e1, e2, e3⟩ => ⟨u.length - (i + 1), by omega, rfl, hlt, S2, n2, e1, e2, e3⟩, fun x H2 ⟨eH, kk, vv, hk, ex⟩ => ?_⟩
    subst eH
    subst ex
    have hki : ∃ z, ks[i]? = some z ∧ kk = .inl z := by
      have e1 : (u.map (·.1))[i]? = some kk := by rw [List.getElem?_map, hk]; rfl
      rw [hks, List.getElem?_map] at e1
      cases z : ks[i]? with
      | none => rw [z] at e1; cases e1
      | some z' => rw [z] at e1; cases e1; exact ⟨z', rfl, rfl⟩
    obtain ⟨z, hz, rfl⟩ := hki
    have hset : ((wipe σ [j1]).set j1 (some (.int z)))[j1]? = some (some (V.int z)) := List.getElem?_set_self (by rw [wipe_length]; exact hl1)
    refine ⟨.int z, hset, z, S', n', rfl, upd_same, by omega, ?_, fun j v e => ?_, fun x => S' x || decide (x = z), (if S' z = true then n' else n' + 1), ?_, ?_, fun x => ?_⟩
    · rw [List.length_set]
    · obtain ⟨e1, e2⟩ := wipe_some e
      have hne : j1 ≠ j := fun h => e2 (by rw [h]; exact List.mem_singleton_self _)
      rw [List.getElem?_set_ne hne]
      exact e
    · funext b
      by_cases hb : b = D
      · rw [hb, upd_same, upd_same]
      · rw [upd_ne hb, upd_ne hb, upd_ne hb]
    · split <;> omega
    · show (S' x || decide (x = z)) = _
      rw [hS x]
      unfold memU
      rw [List.take_add_one, hz]
      simp [Bool.or_assoc]
  · have e : i = u.length := by omega
    subst e
    refine .inl ⟨⟨fz, Nat.le_refl _⟩, fz, ?_⟩
    have qq := q S' n' (fun x => by rw [hS x, hlen, List.take_length]) (by omega)
    have eH : upd (upd (upd H a (.frz od (.dK u))) D (SetO Y.w D S' n')) a (.dK u) = upd H D (SetO Y.w D S' n') := by
      funext b
      by_cases hb : b = a
      · rw [hb, upd_same, upd_ne (Ne.symm hDa), ha]
      · rw [upd_ne hb]
        by_cases hd : b = D
        · rw [hd, upd_same, upd_same]
        · rw [upd_ne hd, upd_ne hd, upd_ne hb]
    rw [eH]
    exact qq⟩
end

theorem contKeys_app {S : Sto} : ∀ {a b : List D} {ks : List Int}, contKeys S (a ++ b) = some ks → ∃ k1 k2, contKeys S a = some k1 ∧ contKeys S b = some k2 ∧ ks = k1 ++ k2
  | [], b, ks, h => ⟨[], ks, rfl, h, rfl⟩
  | d :: a, b, ks, h => by
    rw [List.cons_append] at h
    cases d <;> first | (unfold contKeys at h; cases h) | skip
    rename_i n
    unfold contKeys at h ⊢
    split at h
    · rename_i kvs e
      split at h
      · rename_i k0 e2
        try simp only [e2]
        cases e3 : contKeys S (a ++ b) with
        | none => rw [e3] at h; cases h
        | some k3 =>
          rw [e3] at h
          cases h
          obtain ⟨k1, k2, h1, h2, rfl⟩ := contKeys_app e3
          exact ⟨k0 ++ k1, k2, by rw [h1]; rfl, (by unfold contKeys at h2; exact h2), by rw [List.append_assoc]⟩
      · cases h
    · cases h
theorem contKeys_more {S : Sto} : ∀ {a b : List D} {k1 k2 : List Int}, contKeys S a = some k1 → contKeys S b = some k2 → contKeys S (a ++ b) = some (k1 ++ k2)
  | [], b, _, _, h1, h2 => by cases h1; exact h2
  | d :: a, b, k1, k2, h1, h2 => by
    rw [List.cons_append]
    cases d <;> first | (unfold contKeys at h1; cases h1) | skip
    rename_i n
    unfold contKeys at h1 ⊢
    split at h1
    · rename_i kvs e
      split at h1
      · rename_i k0 e2
        try simp only [e2]
        cases e3 : contKeys S a with
        | none => rw [e3] at h1; cases h1
        | some k3 =>
          rw [e3] at h1
          cases h1
          rw [contKeys_more e3 h2]
          show some (k0 ++ (k3 ++ k2)) = _
          rw [List.append_assoc]
      · cases h1
    · cases h1
theorem contKeys_one {S : Sto} {d : D} {ks : List Int} (h : contKeys S [d] = some ks) : ∃ n kvs, d = .loc n ∧ S[n]? = some (.dct false kvs) ∧ keysI kvs = some ks := by
  cases d <;> first | (unfold contKeys at h; cases h) | skip
  rename_i n
  unfold contKeys at h
  split at h
  · rename_i kvs e
    split at h
    · rename_i k0 e2
      cases h
      exact ⟨n, kvs, rfl, e, by show keysI kvs = some (k0 ++ []); rw [List.append_nil]; exact e2⟩
    · cases h
  · cases h
theorem rvs_ints {G : Ct} {ρ : List Addr} {H : Hp} : ∀ ks : List Int, RVs G ρ H (ks.map D.int) (ks.map V.int)
  | [] => rfl
  | k :: ks => ⟨_, _, rfl, rfl, rvs_ints ks⟩
def FSs (j0 j1 : Nat) (A : Sl → Sto → R D) : Sl → Sto → R D := fun σ S => if j0 < σ.length ∧ j1 < σ.length then FSS A σ S else .bad
section
variable {X : Cx} {cl : Cl} {W : WX} {i0 : Expr} {scope : Scope} {own : List (Str × Nat)} {pos pos' p p0 p1 p2 p3 : Pos} {c k : Str} {j0 j1 : Nat} {A : Sl → Sto → R D}
theorem f_ss (hc : X.calm = true) (hN : X.N.Nodup) (ha : PE X i0 (tF (gx X cl) W A)) (hm : X.mg "sorted" = none) (ok : BlkOk X.N X.env.scope scope own) (h0 : X.N[j0]? = some c) (h1 : X.N[j1]? = some k) (hj : j0 ≠ j1) (m0 : j0 ∈ own.map (·.2)) (m1 : j1 ∈ own.map (·.2))
    (v0 : ∀ (C : Addr) (ce : List (Str × Addr)), Vis (compEnvC scope ce C X.env).scope c) (v1 : ∀ (C : Addr) (ce : List (Str × Addr)), Vis (compEnvC scope ce C X.env).scope k) (l0 : ∀ (C : Addr) (ce : List (Str × Addr)), L2.Loc (compEnvC scope ce C X.env).scope c) (l1 : ∀ (C : Addr) (ce : List (Str × Addr)), L2.Loc (compEnvC scope ce C X.env).scope k)
    (n0 : ∀ (C : Addr) (ce : List (Str × Addr)), (compEnvC scope ce C X.env).scope.names.lookup c = some .local) (n1 : ∀ (C : Addr) (ce : List (Str × Addr)), (compEnvC scope ce C X.env).scope.names.lookup k = some .local)
    (d0 : (c == ("__debug__" : Str)) = false) (d0' : (c == ("__classdict__" : Str)) = false) (d1 : (k == ("__debug__" : Str)) = false) (d1' : (k == ("__classdict__" : Str)) = false) (hg : Gl X "sorted" := by rfl) (hs : ∀ x, foldedSetIterable i0 X.env x = pure x := by intro _; rfl)
    (he : starEach [sc2E (.Name k p1) (.Name c p0) i0 (.Name k p2) (.Name c p3) scope pos] X.env = [(false, eval (sc2E (.Name k p1) (.Name c p0) i0 (.Name k p2) (.Name c p3) scope pos) X.env)] := by rfl) :
    PE X (.Call (.Name "sorted" p) [sc2E (.Name k p1) (.Name c p0) i0 (.Name k p2) (.Name c p3) scope pos] [] pos') (tF (gx X cl) W (FSs j0 j1 A)) := by
  have ps := pe_sc2 (X := X) (elt := .Name k p1) (t0 := .Name c p0) (i0 := i0) (t1 := .Name k p2) (i1 := .Name c p3) (scope := scope) (pos := pos) (ta := fun D => tDict X.w D j0 j1) hc hN (pi_tup ha) ok (fun s H C ce fp => pg_name hN h0 (l0 C ce) (.inr (n0 C ce))) (fun s H C ce fp D => pa_dict hc rfl hN h0 h1 (v0 C ce) (v1 C ce) (l1 C ce) (.inr (n1 C ce)) d0 d0' d1 d1') hs
  refine PE.imp (pe_callB (cr_sortedSet hc) hg hm (by decide +kernel) (pa_cons ps pa_nil he) (by decide) (by decide) he rfl) fun σ H Q ⟨ρ, σd, S, rel, o⟩ => ?_
  unfold FSs at o
  by_cases hjj : j0 < σd.length ∧ j1 < σd.length
  case neg => rw [if_neg hjj] at o; exact o.elim
  rw [if_pos hjj] at o
  unfold FSS at o
  refine tG_to rel o fun d S1 x H1 ρ1 e1 rel1 t1 o1 => ?_
  cases d <;> first | exact o1.elim | skip
  rename_i ds
  dsimp only at o1
  cases hk : contKeys S1 ds with
  | none => rw [hk] at o1; exact o1.elim
  | some ks =>
    rw [hk] at o1
    dsimp only at o1
    by_cases hf : ks.length < 60 ∧ ds.length < 60
    case neg => rw [if_neg hf] at o1; exact o1.elim
    rw [if_pos hf] at o1
    obtain ⟨a, vs, rfl, hT, rv⟩ := t1
    have hl := rv.length
    refine ⟨a, rfl, ⟨vs, hT⟩, fun Dl hD => ?_⟩
    have keep : ∀ (u : HO), SqT X.K (upd H1 Dl u) a vs := fun u => (Ext.new (G := gx X cl) (ρ := ρ1) hD).tup _ _ hT
    refine ⟨fun i m H2 => m = ds.length - i ∧ i ≤ ds.length ∧ ∃ S' n' pre, contKeys S1 (ds.take i) = some pre ∧ H2 = upd H1 Dl (SetO X.w Dl S' n') ∧ n' ≤ pre.length ∧ ∀ y, S' y = decide (y ∈ pre), ds.length, ⟨rfl, Nat.zero_le _, fun _ => false, 0, [], rfl, rfl, Nat.le_refl _, fun y => by simp⟩, ?_⟩
    rintro i m H2 ⟨rfl, hi, S', n', pre, hpre, rfl, hn', hS⟩
    by_cases hlt : i < ds.length
    · have hd : ds[i]? = some ds[i] := List.getElem?_eq_getElem hlt
      have cut : ds = ds.take i ++ ([ds[i]] ++ ds.drop (i + 1)) := by
        have h := (List.take_append_drop i ds).symm
        rw [List.drop_eq_getElem_cons hlt] at h
        exact h
      have hk2 : contKeys S1 (ds.take i ++ ([ds[i]] ++ ds.drop (i + 1))) = some ks := by rw [← cut]; exact hk
      obtain ⟨k1, k2, g1, g2, ek⟩ := contKeys_app hk2
      rw [hpre] at g1
      cases g1
      obtain ⟨k3, k4, g3, g4, ek2⟩ := contKeys_app g2
      obtain ⟨n, kvs, en, eS, eK⟩ := contKeys_one g3
      have hnext : contKeys S1 (ds.take (i + 1)) = some (pre ++ k3) := by rw [List.take_add_one, hd]; exact contKeys_more hpre g3
      have hlk : (pre ++ k3).length ≤ ks.length := by rw [ek, ek2]; simp
      rw [List.length_append] at hlk
      obtain ⟨v, hv, rvi⟩ := rv.get hd
      rw [en] at rvi
      obtain ⟨ai, rfl, hai⟩ := rvi
      obtain ⟨u, hu, rk⟩ := rel1.hp.obj n ai _ hai eS
      have hDa : Dl ≠ ai := fun z => by rw [z, hu] at hD; cases hD
      refine .inr ⟨⟨vs, .ref ai, keep _, hv⟩, fun H3 => ∃ S2 n2, H3 = upd H1 Dl (SetO X.w Dl S2 n2) ∧ n2 ≤ (pre ++ k3).length ∧ ∀ y, S2 y = decide (y ∈ pre ++ k3), fun H3 ⟨S2, n2, e1, e2, e3⟩ => ⟨ds.length - (i + 1), by omega, rfl, hlt, S2, n2, _, hnext, e1, e2, e3⟩, fun x H3 ⟨eH, hy⟩ => ?_⟩
      subst eH
      have ex := hy vs (keep _)
      rw [hv] at ex
      cases ex
      have lw : (wipe σ (own.map (·.2))).length = σd.length := by rw [wipe_length]; exact rel.len
      refine ⟨ai, u, k3, S', n', List.getElem?_set_self (by rw [lw]; exact hjj.1), hj, by rw [List.length_set, lw]; exact hjj.2, by rw [upd_ne (Ne.symm hDa)]; exact hu, keysI_of eK rk, hDa, upd_same, by have : scanBound = 4096 := rfl; omega, fun S2 n2 hS2 hn2 => ⟨?_, fun j v e => ?_, S2, n2, ?_, by rw [List.length_append]; omega, fun y => ?_⟩⟩
      · rw [wipe_length, wipe_length, List.length_set, wipe_length]
      · obtain ⟨_, hj'⟩ := wipe_some e
        have q0 : j0 ≠ j := fun z => hj' (z ▸ m0)
        have q1 : j1 ≠ j := fun z => hj' (z ▸ m1)
        show (((wipe σ (own.map (·.2))).set j0 _).set j1 none)[j]? = _
        rw [List.getElem?_set_ne q1, List.getElem?_set_ne q0]
        exact e
      · funext b
        by_cases hb : b = Dl
        · rw [hb, upd_same, upd_same]
        · rw [upd_ne hb, upd_ne hb, upd_ne hb]
      · rw [hS2 y]
        unfold memU
        rw [hS y]
        simp
    · have ei : i = ds.length := by omega
      subst ei
      rw [List.take_length, hk] at hpre
      cases hpre
      refine .inl ⟨⟨vs, keep _, by omega⟩, Dl, S', n', rfl, upd_same, by omega, fun ns p hpw hmem _ hp => ?_⟩
      have ens : ns = sortU ks := pw_same hpw (sortU_pw ks) fun y => by rw [hmem y, hS y, sortU_mem]; simp
      subst ens
      have x1 : Ext (gx X cl) ρ1 ρ1 H1 (upd H1 Dl (SetO X.w Dl S' n')) := Ext.new hD
      have x2 : Ext (gx X cl) ρ1 (ρ1 ++ [p]) (upd H1 Dl (SetO X.w Dl S' n')) (upd (upd H1 Dl (SetO X.w Dl S' n')) p (.lst ((sortU ks).map V.int))) := (Ext.new hp).more
      exact o1 _ _ (ρ1 ++ [p]) (x1.trans x2) ((rel1.hp.side hD).new hp ⟨_, upd_same, ints_rvs _⟩) ⟨p, rfl, by rw [← rel1.hp.len, List.getElem?_append_right (Nat.le_refl _)]; simp⟩
end
end Mi
set_option Elab.async false
set_option autoImplicit false
set_option linter.all false
set_option maxRecDepth 100000
set_option maxHeartbeats 1000000
namespace Mi
open PySem L2

/-! ### names for what the generated texts say -/
theorem tk0 {X : Cx} : Takes X W0 := fun _ _ ⟨_, _, _, _, _, _, _, _, _, _, _, _, _, _, _, _, w⟩ => w.elim
theorem hu65 {k : Nat} {A : Around} (r : Room k A) : A.units + 65 < cLine := by have := r.un; omega
theorem hu1 {k : Nat} {A : Around} (r : Room k A) : A.units + 1 < cLine := by have := r.un; omega
def IRg1 (A : Sl → Sto → R (List D)) : Sl → Sto → R Src := fun σ S => (A σ S).to fun ds S1 => match ds with
  | [.int j] => if j.natAbs < 2 ^ 61 then .ok (.rng 0 j.toNat) S1 else .bad
  | _ => .bad
def IRg2 (A : Sl → Sto → R (List D)) : Sl → Sto → R Src := fun σ S => (A σ S).to fun ds S1 => match ds with
  | [.int i, .int j] => if i.natAbs < 2 ^ 61 ∧ j.natAbs < 2 ^ 61 then .ok (.rng i (j - i).toNat) S1 else .bad
  | _ => .bad
def ILs (F : Sl → Sto → R D) : Sl → Sto → R Src := fun σ S => (F σ S).to fun d S1 => match d with
  | .loc n => match S1[n]? with
    | some (.lst _) => .ok (.sq (.loc n)) S1
    | _ => .bad
  | _ => .bad
def IKs (F : Sl → Sto → R D) : Sl → Sto → R Src := fun σ S => (F σ S).to fun d S1 => match d with
  | .loc n => match S1[n]? with
    | some (.dct true _) => .ok (.keys n) S1
    | _ => .bad
  | _ => .bad
def IIt (F : Sl → Sto → R D) : Sl → Sto → R Src := fun σ S => (F σ S).to fun d S1 => match d with
  | .loc n => match S1[n]? with
    | some (.dct true _) => .ok (.items n) S1
    | _ => .bad
  | _ => .bad
def IEn (A : Sl → Sto → R (List D)) : Sl → Sto → R Src := fun σ S => (A σ S).to fun ds S1 => match ds with
  | [.loc n] => match S1[n]? with
    | some (.lst _) => .ok (.enum (.loc n)) S1
    | _ => .bad
  | _ => .bad
def FProp (c : Nat) (mm : DN) (A : Sl → Sto → R D) : Sl → Sto → R D := fun σ S => (A σ S).to fun a S1 => match insAt S1 c a with
  | some _ => match mm [a] S1 with
    | .ok d S2 => .ok d S2
    | _ => .bad
  | none => .bad
section
variable {X : Cx} {cl : Cl} {W : WX}
theorem j_rng1 {tg a : Expr} {A : Sl → Sto → R (List D)} {p pos : Pos} (hm : X.mg "range" = none) (ha : PA X [a] (tA (gx X cl) W A)) (hg : Gl X "range" := by rfl) (hs : starEach [a] X.env = [(false, eval a X.env)] := by rfl) :
    PI X tg (.Call (.Name "range" p) [a] [] pos) (tI (gx X cl) W (IRg1 A)) := i_rng1 hm ha hg hs
theorem j_rng2 {tg a b : Expr} {A : Sl → Sto → R (List D)} {p pos : Pos} (hm : X.mg "range" = none) (ha : PA X [a, b] (tA (gx X cl) W A)) (hg : Gl X "range" := by rfl) (hs : starEach [a, b] X.env = [(false, eval a X.env), (false, eval b X.env)] := by rfl) (hs2 : starEach [b] X.env = [(false, eval b X.env)] := by rfl) :
    PI X tg (.Call (.Name "range" p) [a, b] [] pos) (tI (gx X cl) W (IRg2 A)) := i_rng2 hm ha hg hs hs2
theorem j_list {tg l : Expr} {F : Sl → Sto → R D} (hl : PE X l (tF (gx X cl) W F)) : PI X tg l (tI (gx X cl) W (ILs F)) := i_list hl
theorem j_keys {tg e : Expr} {A : Sl → Sto → R D} (he : PE X e (tF (gx X cl) W A)) : PI X tg e (tI (gx X cl) W (IKs A)) := i_keys he
theorem j_items {elts : List Expr} {kk : Nat} {tpos apos cpos : Pos} {e : Expr} {A : Sl → Sto → R D} (he : PE X e (tF (gx X cl) W A)) (hbase : attributeBase e "items" X.env (eval e X.env) = eval e X.env := by rfl) (hline : (apos.endLine == cpos.line) = true := by rfl) :
    PI X (.Tuple elts kk tpos) (.Call (.Attribute e "items" apos) [] [] cpos) (tI (gx X cl) W (IIt A)) := i_items he hbase hline
theorem j_enum {tpos p pos : Pos} {elts : List Expr} {kk : Nat} {e : Expr} {A : Sl → Sto → R (List D)} (hm : X.mg "enumerate" = none) (ha : PA X [e] (tA (gx X cl) W A)) (hg : Gl X "enumerate" := by rfl) (hs : starEach [e] X.env = [(false, eval e X.env)] := by rfl) :
    PI X (.Tuple elts kk tpos) (.Call (.Name "enumerate" p) [e] [] pos) (tI (gx X cl) W (IEn A)) := i_enum hm ha hg hs
theorem f_propM {o : Expr} {f : Str} {c k : Nat} {g pr : Addr} {fd : FuncData} {mm : DN} {A : Sl → Sto → R D} {pos : Pos} (C : ClsF X.K cl c) (hp : PropOf X.K (cl.cl c) f pr g) (F : FnOk X.prog X.w X.K X.mg X.base (L2.CX X.prog X.w) k g fd ["self"] (spF (gx X cl) mm)) (hr : Room (k + 1) X.A) (hb : Binds X.K fd ["self"] [])
    (ho : PE X o (tF (gx X cl) W A)) (hab : attributeBase o f X.env (eval o X.env) = eval o X.env := by rfl) : PE X (.Attribute o f pos) (tF (gx X cl) W (FProp c mm A)) := f_prop C hp F hr hb ho hab
end
end Mi
set_option Elab.async false
set_option autoImplicit false
set_option linter.all false
set_option maxRecDepth 100000
set_option maxHeartbeats 4000000
namespace Mi
open PySem L2

/-! ### dicts whose keys are tuples, of any depth up to 8 -/
section
variable {X : Cx} {cl : Cl} {pins : List (Addr × Obj)} {σ : L2.St} {H : Hp} {s : Shared} {ρ : List Addr}
mutual
theorem isN (I : Inv X pins σ H s) : ∀ (d : D) (v : V) (u : Value) (k : NestedKey), RV (gx X cl) ρ H d v → RelV v u → keyN d = some k → NestedIs s.heap k u
  | .non, v, u, k, r, q, h => by
    cases r
    unfold keyN at h; cases h
    cases (show u = Value.none from q)
    exact .none
  | .bl b, v, u, k, r, q, h => by
    cases r
    unfold keyN at h; cases h
    cases (show u = Value.bool b from q)
    exact .bool rfl
  | .int i, v, u, k, r, q, h => by
    cases r
    unfold keyN at h; cases h
    obtain ⟨t, rfl⟩ : ∃ t, u = Value.int i t := q
    exact .int i t
  | .str x, v, u, k, r, q, h => by
    cases r
    unfold keyN at h; cases h
    obtain ⟨t, rfl⟩ : ∃ t, u = Value.str x t := q
    exact .text x t
  | .tup xs, v, u, k, r, q, h => by
    obtain ⟨a, vs, rfl, h1, h2⟩ := r
    cases (show u = Value.ref a from q)
    unfold keyN at h
    split at h
    · rename_i ks hk
      cases h
      obtain ⟨its, rv, ⟨o, g1, g2, n, g3⟩, _⟩ := I.tuple h1
      exact .tup g1 g2 g3 (by simpa using isNs I xs vs its ks h2 rv hk)
    · cases h
  | .fl _, _, _, _, _, _, h => by unfold keyN at h; cases h
  | .loc _, _, _, _, _, _, h => by unfold keyN at h; cases h
  | .cls _, _, _, _, _, _, h => by unfold keyN at h; cases h
  | .exc _ _, _, _, _, _, _, h => by unfold keyN at h; cases h
theorem isNs (I : Inv X pins σ H s) : ∀ (ds : List D) (vs : List V) (us : List Value) (ks : List NestedKey), RVs (gx X cl) ρ H ds vs → Vals vs us → keysN ds = some ks → NestedAll s.heap ks us
  | [], vs, us, ks, r, q, h => by
    cases r
    cases q
    unfold keysN at h; cases h
    exact .nil
  | d :: ds, vs, us, ks, r, q, h => by
    obtain ⟨v, w, rfl, r1, r2⟩ := r
    cases q with
    | cons q1 q2 =>
      unfold keysN at h
      cases h1 : keyN d with
      | none => rw [h1] at h; cases h
      | some k =>
        cases h2 : keysN ds with
        | none => rw [h1, h2] at h; cases h
        | some ks' =>
          rw [h1, h2] at h
          cases h
          exact .cons (isN I d v _ k r1 q1 h1) (isNs I ds w _ ks' r2 q2 h2)
end
/-! the entries -/
def getN : List (NestedKey × D × D) → NestedKey → Option D
  | [], _ => none
  | p :: r, k => match NestedKey.beq p.1 k with
    | true => some p.2.2
    | false => getN r k
def putN : List (NestedKey × D × D) → NestedKey → D → D → List (NestedKey × D × D)
  | [], k, dk, d => [(k, dk, d)]
  | p :: r, k, dk, d => match NestedKey.beq p.1 k with
    | true => (p.1, p.2.1, d) :: r
    | false => p :: putN r k dk d
theorem beq_t {a b : NestedKey} (h : NestedKey.beq a b = true) : a = b := NestedKey.eq_of_beq a b h
theorem beq_f {a b : NestedKey} (h : NestedKey.beq a b = false) : a ≠ b := fun e => by rw [e, NestedKey.beq_self] at h; cases h
theorem at_pos {x : NestedKey × Addr × Value} {xs : List (NestedKey × Addr × Value)} {k : NestedKey} (e : x.1 = k) : atKey (x :: xs) k = some x.2 := by simp [atKey, List.find?_cons, e]
theorem at_neg {x : NestedKey × Addr × Value} {xs : List (NestedKey × Addr × Value)} {k : NestedKey} (e : x.1 ≠ k) : atKey (x :: xs) k = atKey xs k := by simp [atKey, List.find?_cons, e]
theorem getN_rv {G : Ct} {k : NestedKey} : ∀ {ps : List (NestedKey × D × D)} {xs : List (NestedKey × Addr × Value)}, RNs G ρ H ps xs → (getN ps k = none → atKey xs k = none) ∧ ∀ d, getN ps k = some d → ∃ b u v, atKey xs k = some (b, u) ∧ RV G ρ H d v ∧ RelV v u
  | [], _, h => by cases h; exact ⟨(fun _ => rfl), (fun d q => by cases q)⟩
  | p :: ps, _, h => by
    obtain ⟨b, u, v, r, rfl, h1, h2, h3, h4, h5, h6⟩ := h
    have ih := getN_rv (k := k) h6
    unfold getN
    cases e : NestedKey.beq p.1 k with
    | true => exact ⟨(fun q => by cases q), (fun d q => by cases q; exact ⟨b, u, v, at_pos (beq_t e), h4, h5⟩)⟩
    | false =>
      rw [at_neg (beq_f e)]
      exact ih
theorem RNs.length {G : Ct} : ∀ {ps : List (NestedKey × D × D)} {xs : List (NestedKey × Addr × Value)}, RNs G ρ H ps xs → ps.length = xs.length
  | [], _, h => by cases h; rfl
  | p :: ps, _, h => by
    obtain ⟨b, u, v, r, rfl, _, _, _, _, _, h6⟩ := h
    simp [RNs.length h6]
theorem RNs.get {G : Ct} : ∀ {ps : List (NestedKey × D × D)} {xs : List (NestedKey × Addr × Value)} {i : Nat} {p : NestedKey × D × D}, RNs G ρ H ps xs → ps[i]? = some p → ∃ b u v, xs[i]? = some (p.1, b, u) ∧ RV G ρ H p.2.1 (.ref b) ∧ RV G ρ H p.2.2 v ∧ RelV v u
  | [], _, _, _, _, e => by simp at e
  | q :: ps, _, 0, _, h, e => by
    obtain ⟨b, u, v, r, rfl, h1, h2, h3, h4, h5, h6⟩ := h
    simp at e; subst e
    exact ⟨b, u, v, rfl, h3, h4, h5⟩
  | q :: ps, _, i + 1, p, h, e => by
    obtain ⟨b, u, v, r, rfl, h1, h2, h3, h4, h5, h6⟩ := h
    obtain ⟨b', u', v', e1, h⟩ := RNs.get (i := i) h6 (by simpa using e)
    exact ⟨b', u', v', by simpa using e1, h⟩
theorem rns_is (I : Inv X pins σ H s) : ∀ {ps : List (NestedKey × D × D)} {xs : List (NestedKey × Addr × Value)}, RNs (gx X cl) ρ H ps xs → ∀ x ∈ xs, (nestedKind X.prog X.w).is s.heap x.1 x.2.1
  | [], _, h, x, hx => by cases h; cases hx
  | p :: ps, _, h, x, hx => by
    obtain ⟨b, u, v, r, rfl, h1, h2, h3, h4, h5, h6⟩ := h
    rcases List.mem_cons.mp hx with e | hx
    · subst e
      exact ⟨isN I _ _ _ _ h3 rfl h1, h2⟩
    · exact rns_is I h6 x hx
theorem map_put {xs : List (NestedKey × Addr × Value)} {k : NestedKey} {u : Value} (h : k ∉ xs.map (·.1)) : xs.map (PySem.putAt k u) = xs := by
  induction xs with
  | nil => rfl
  | cons x xs ih =>
    rw [List.map_cons, List.mem_cons, not_or] at h
    rw [List.map_cons, ih h.2]
    unfold PySem.putAt
    rw [if_neg (fun z => h.1 z.symm)]
theorem atKey_none {xs : List (NestedKey × Addr × Value)} {k : NestedKey} (h : k ∉ xs.map (·.1)) : atKey xs k = none := by
  induction xs with
  | nil => rfl
  | cons x xs ih =>
    rw [List.map_cons, List.mem_cons, not_or] at h
    rw [at_neg (fun z => h.1 z.symm)]
    exact ih h.2
theorem putN_rv {G : Ct} {k : NestedKey} {dk d : D} {b : Addr} {v : V} {u : Value} (hk : keyN dk = some k) (h8 : k.depth ≤ 8) (rk : RV G ρ H dk (.ref b)) (rd : RV G ρ H d v) (rv : RelV v u) : ∀ {ps : List (NestedKey × D × D)} {xs : List (NestedKey × Addr × Value)},
    RNs G ρ H ps xs → (xs.map (·.1)).Nodup → RNs G ρ H (putN ps k dk d) (storedH xs k b u)
  | [], _, h, _ => by cases h; exact ⟨b, u, v, [], rfl, hk, h8, rk, rd, rv, rfl⟩
  | p :: ps, _, h, nd => by
    obtain ⟨b', u', v', r, rfl, h1, h2, h3, h4, h5, h6⟩ := h
    rw [List.map_cons, List.nodup_cons] at nd
    have ih := putN_rv hk h8 rk rd rv h6 nd.2
    unfold putN
    cases e : NestedKey.beq p.1 k with
    | true =>
      have e' : p.1 = k := beq_t e
      have : storedH ((p.1, b', u') :: r) k b u = (p.1, b', u) :: r := by
        rw [storedH_old (at_pos e'), List.map_cons]
        have nk : k ∉ r.map (·.1) := by rw [← e']; exact nd.1
        rw [map_put nk]
        unfold PySem.putAt
        rw [if_pos e']
      rw [this]
      exact ⟨b', u, v, r, rfl, h1, h2, h3, rd, rv, h6⟩
    | false =>
      have e' : p.1 ≠ k := beq_f e
      have : storedH ((p.1, b', u') :: r) k b u = (p.1, b', u') :: storedH r k b u := by
        unfold storedH
        rw [at_neg e']
        by_cases q : (atKey r k).isSome = true
        · rw [if_pos q, if_pos q, List.map_cons]
          unfold PySem.putAt
          rw [if_neg e']
        · rw [if_neg q, if_neg q]; rfl
      rw [this]
      exact ⟨b', u', v', _, rfl, h1, h2, h3, h4, h5, ih⟩
theorem length_storedH {xs : List (NestedKey × Addr × Value)} {k : NestedKey} {b : Addr} {u : Value} : (storedH xs k b u).length ≤ xs.length + 1 := by
  unfold storedH
  split
  · rw [List.length_map]; omega
  · simp
/-- a dict of the store as one with tuple keys (an empty one is both) -/
def dtnAt (S : Sto) : D → Option (Bool × List (NestedKey × D × D))
  | .loc n => match S[n]? with
    | some (.dtn lk kvs) => some (lk, kvs)
    | some (.dct lk []) => some (lk, [])
    | _ => none
  | _ => none
structure DtnR (X : Cx) (cl : Cl) (ρ : List Addr) (H : Hp) (S : Sto) (s : Shared) (d : D) (v : V) (lk : Bool) (kvs : List (NestedKey × D × D)) (a : Addr) (n : Nat) (xs : List (NestedKey × Addr × Value)) : Prop where
  d : d = .loc n
  v : v = .ref a
  at_ : ρ[n]? = some a
  sys : (a == sysModules) = false
  le : xs.length ≤ sizeLine
  dd : s.heap.DictOfH (nestedKind X.prog X.w) a xs
  rn : RNs (gx X cl) ρ H kvs xs
  mu : lk = false → Mut (H a)
theorem dtn_rd (I : Inv X pins σ H s) (hp : cl.pw = some (X.prog, X.w)) {S : Sto} (rel : RelH (gx X cl) ρ H S) {d : D} {v : V} {lk : Bool} {kvs : List (NestedKey × D × D)} (hv : RV (gx X cl) ρ H d v) (h : dtnAt S d = some (lk, kvs)) :
    ∃ a n xs, DtnR X cl ρ H S s d v lk kvs a n xs := by
  cases d <;> first | cases h | skip
  rename_i n
  unfold dtnAt at h
  dsimp only at h
  split at h
  · rename_i lk' kvs' e
    cases h
    obtain ⟨a, ev, ha, om⟩ := rel.at e hv
    subst ev
    have key : ∀ {P w xs}, cl.pw = some (P, w) → NkObj P w a xs s.heap → RNs (gx X cl) ρ H kvs xs → (lk = false → Mut (H a)) → ∃ a' n' xs', DtnR X cl ρ H S s (.loc n) (.ref a) lk kvs a' n' xs' := fun {P w xs} e0 z r mu => by
      rw [hp] at e0; cases e0
      obtain ⟨z1, z2, o, es, ep, g1, g2, g3, g4, g5⟩ := z
      exact ⟨a, n, xs, rfl, rfl, ha, z1, z2, ⟨o, es, ep, g1, g2, g3, g4, rns_is I r, g5⟩, r, mu⟩
    cases lk with
    | false =>
      obtain ⟨P, w, xs, e0, e1, r⟩ := om
      obtain ⟨z, _⟩ := I.hok a _ e1
      exact key e0 z r fun _ => by rw [e1]; trivial
    | true =>
      obtain ⟨P, w, xs, o, e0, e1, r⟩ := om
      obtain ⟨_, z, _⟩ := I.hok a _ e1
      exact key e0 z r fun q => by cases q
  · rename_i lk' e
    cases h
    have e2 : dctAt S (.loc n) = some (lk, []) := by unfold dctAt; dsimp only; rw [e]
    obtain ⟨a, ks, n', en, es, ha, ev, hr, rk, hl⟩ := dct_of rel hv e2
    cases en
    subst ev
    cases rk
    obtain ⟨z, hd, vs, kv, o, es, ep, g1, g2, g3, g4, g5, g6⟩ := dk_rd I.hok hr
    cases kv
    have ee : es.toList = [] := by
      cases q : es.toList with
      | nil => rfl
      | cons a b => rw [q] at g5; cases g5
    exact ⟨a, n, [], rfl, rfl, ha, hd, Nat.zero_le _, ⟨o, es, ep, g1, g2, g3, by rw [ee]; rfl, (fun _ hx => by cases hx), List.nodup_nil⟩, rfl, fun q => by rw [hl q]; trivial⟩
  · cases h
/-- what a store makes of it -/
theorem dtn_put {S : Sto} {d : D} {v : V} {kvs : List (NestedKey × D × D)} {a : Addr} {n : Nat} {xs : List (NestedKey × Addr × Value)} {k : NestedKey} {dk dv : D} {b : Addr} {y : V} {u : Value} {h' : Heap} {t' : Nat} (I : Inv X pins σ H s) (hp : cl.pw = some (X.prog, X.w)) (rel : RelH (gx X cl) ρ H S) (R : DtnR X cl ρ H S s d v false kvs a n xs)
    (hl : kvs.length < line) (hk : keyN dk = some k) (h8 : k.depth ≤ 8) (rk : RV (gx X cl) ρ H dk (.ref b)) (rd : RV (gx X cl) ρ H dv y) (ry : RelV y u)
    (hm : h'.DictOfH (nestedKind X.prog X.w) a (storedH xs k b u)) (hs : Heap.SameBut a s.heap h') :
    ∃ H', Inv X pins σ H' { s with heap := h', toks := t' } ∧ Ext (gx X cl) ρ ρ H H' ∧ RelH (gx X cl) ρ H' (S.set n (.dtn false (putN kvs k dk dv))) := by
  obtain ⟨o, es, ep, g1, g2, g3, g4, g5, g6⟩ := hm
  obtain ⟨_, _, _, _, _, _, _, _, nd⟩ := R.dd
  have mu := R.mu rfl
  have ew : Ext (gx X cl) ρ ρ H (upd H a (.ext (NkObj X.prog X.w a (storedH xs k b u)))) := Ext.write mu
  have hle : (storedH xs k b u).length ≤ sizeLine := by
    have := length_storedH (xs := xs) (k := k) (b := b) (u := u)
    have h2 := R.rn.length
    have h3 : line < sizeLine := by decide
    omega
  refine ⟨_, d_write (ob := .ext (NkObj X.prog X.w a (storedH xs k b u))) I mu hs ⟨o, g1⟩ ⟨⟨R.sys, hle, o, es, ep, g1, g2, g3, g4, g6⟩, ⟨o, g1⟩, fun h1 h2 ⟨z1, z2, o', es', ep', q1, q2⟩ st => ⟨z1, z2, o', es', ep', st _ q1, q2⟩⟩, ew, ?_⟩
  exact rel.write R.at_ mu ⟨X.prog, X.w, _, hp, upd_same, (putN_rv hk h8 rk rd ry R.rn nd).ext ew⟩
theorem roomN {A : Around} (h : A.units + 65 < cLine) : (nestedKind X.prog X.w).room A.in1 := by
  show A.units + 1 + 8 < cLine
  omega
theorem roomN0 {A : Around} (h : A.units + 65 < cLine) : (nestedKind X.prog X.w).room A := by
  show A.units + 8 < cLine
  omega
end
/-- a tuple as a key -/
def tkN (d : D) : Option NestedKey := match d with
  | .tup xs => match keyN (.tup xs) with
    | some k => if k.depth ≤ 8 then some k else none
    | none => none
  | _ => none
theorem tkN_of {d : D} {k : NestedKey} (h : tkN d = some k) : keyN d = some k ∧ k.depth ≤ 8 ∧ ∃ xs, d = .tup xs := by
  cases d <;> first | cases h | skip
  rename_i xs
  unfold tkN at h
  dsimp only at h
  split at h
  · rename_i k' hk
    split at h
    · cases h
      exact ⟨hk, by assumption, xs, rfl⟩
    · cases h
  · cases h
section
variable {X : Cx} {cl : Cl} {W : WX} {o i e f a b : Expr} {pos pos' apos cpos : Pos} {A B C : Sl → Sto → R D}
/-- two expressions, one behind the other -/
theorem two_run {pins : List (Addr × Obj)} {s : Shared} {σ : L2.St} {σd : Sl} {H : Hp} {S : Sto} {ρ : List Addr} {Q : VK} {k : D → D → Sto → R D} (I : Inv X pins σ H s) (ha : PE X a (tF (gx X cl) W A)) (hb : PE X b (tF (gx X cl) W B)) (rel : Rel (gx X cl) ρ σ σd H S) (oo : Out (gx X cl) (RV (gx X cl)) W ρ σ H (F2 k A B σd S) Q)
    {R : Value → Value → Shared → Prop} (h : ∀ u w s2 x y H2 ρ2 S2 da db, Inv X pins σ H2 s2 → RelV x u → RelV y w → Rel (gx X cl) ρ2 σ σd H2 S2 → RV (gx X cl) ρ2 H2 da x → RV (gx X cl) ρ2 H2 db y → Out (gx X cl) (RV (gx X cl)) W ρ2 σ H2 (k da db S2) Q → R u w s2) :
    wpAny (model X.prog X.w) X.A (eval a X.env) (fun u s1 => wpAny (model X.prog X.w) X.A (eval b X.env) (fun w s2 => R u w s2) X.xe s1) X.xe s := by
  refine thn (ha.run pins s σ H (fun x H1 => ∃ ρ1 S1 da, Rel (gx X cl) ρ1 σ σd H1 S1 ∧ RV (gx X cl) ρ1 H1 da x ∧ Out (gx X cl) (RV (gx X cl)) W ρ1 σ H1 ((B σd S1).to fun b S2 => k da b S2) Q) I (tG_to rel oo fun da S1 x H1 ρ1 e1 rel1 t1 o1 => ⟨ρ1, S1, da, rel1, t1, o1⟩)) fun u s1 ⟨x, H1, I1, rx, ρ1, S1, da, rel1, t1, o1⟩ => ?_
  refine thn (hb.run pins s1 σ H1 (fun y H2 => ∃ ρ2 S2 db, Rel (gx X cl) ρ2 σ σd H2 S2 ∧ RV (gx X cl) ρ2 H2 da x ∧ RV (gx X cl) ρ2 H2 db y ∧ Out (gx X cl) (RV (gx X cl)) W ρ2 σ H2 (k da db S2) Q) I1 (tG_to rel1 o1 fun db S2 y H2 ρ2 e2 rel2 t2 o2 => ⟨ρ2, S2, db, rel2, t1.ext e2, t2, o2⟩)) fun w s2 ⟨y, H2, I2, ry, ρ2, S2, db, rel2, ta, tb, o2⟩ => ?_
  exact h u w s2 x y H2 ρ2 S2 da db I2 rx ry rel2 ta tb o2
/-- d[k] -/
def opNGet : D2 := fun a b S => match dtnAt S a, tkN b with
  | some (_, kvs), some k => match getN kvs k with
    | some d => .ok d S
    | none => .bad
  | _, _ => .bad
def FNGet (A B : Sl → Sto → R D) : Sl → Sto → R D := F2 opNGet A B
theorem f_nget (hp : cl.pw = some (X.prog, X.w)) (hu : X.A.units + 65 < cLine) (ho : PE X o (tF (gx X cl) W A)) (hi : PE X i (tF (gx X cl) W B)) (hs : NoSl i := by exact fun _ _ => rfl) : PE X (.Subscript o i pos) (tF (gx X cl) W (FNGet A B)) := by
  refine ⟨fun pins s σ H Q I ⟨ρ, σd, S, rel, oo⟩ => ?_⟩
  refine subD_of PySem.F.slot_dict_getitem.lookup hs (two_run I ho hi rel oo fun u w s2 x y H2 ρ2 S2 da db I2 rx ry rel2 ta tb o2 => ?_)
  unfold opNGet at o2
  cases h1 : dtnAt S2 da with
  | none => rw [h1] at o2; exact o2.elim
  | some p =>
    obtain ⟨lk, kvs⟩ := p
    cases h2 : tkN db with
    | none => rw [h1, h2] at o2; exact o2.elim
    | some k =>
      rw [h1, h2] at o2
      dsimp only at o2
      cases h3 : getN kvs k with
      | none => rw [h3] at o2; exact o2.elim
      | some d =>
        rw [h3] at o2
        obtain ⟨a, n, xs, R⟩ := dtn_rd I2 hp rel2.hp ta h1
        obtain ⟨k1, k2, xs', rfl⟩ := tkN_of h2
        obtain ⟨c, vs, rfl, _⟩ := id tb
        cases R.d; cases R.v
        cases (show u = Value.ref a from rx)
        cases (show w = Value.ref c from ry)
        obtain ⟨b', u', v', g1, g2, g3⟩ := (getN_rv R.rn).2 d h3
        exact ⟨R.dd.typeIs, wpAny_getItem_heap (roomN hu) ⟨isN I2 _ _ _ _ tb rfl k1, k2⟩ R.dd g1 ⟨v', H2, I2.tok _, g3, Out.ret o2 rel2.hp g2⟩⟩
/-- k in d, k not in d -/
def opNIn (neg : Bool) : D2 := fun b a S => match dtnAt S a, tkN b with
  | some (_, kvs), some k => .ok (.bl (if neg then !(getN kvs k).isSome else (getN kvs k).isSome)) S
  | some (_, _), none => match b with
    | .non => .ok (.bl neg) S
    | _ => .bad
  | _, _ => .bad
def FNIn (neg : Bool) (B A : Sl → Sto → R D) : Sl → Sto → R D := F2 (opNIn neg) B A
end
end Mi
set_option Elab.async false
set_option autoImplicit false
set_option linter.all false
set_option maxRecDepth 100000
set_option maxHeartbeats 1000000
namespace Mi
open PySem SeqAt
/-! ### None asked for in a dict of tuple keys -/
theorem find_noneN {prog : Program} {w : World} {A : Around} {E : Value → Shared → Prop} {s : Shared} {d : Addr} {o : Obj} {es : Array DictEntry} {ep : Nat} {xs : List (NestedKey × Addr × Value)} {h0 : Int} {Q : Option Nat → Shared → Prop} (hu : A.units + 9 < cLine)
    (ho : s.heap.get? d = some o) (hd : o.data = .dict es ep) (he : es.toList = xs.map (entryOfKey (nestedKind prog w))) (his : ∀ x ∈ xs, (nestedKind prog w).is s.heap x.1 x.2.1) (hq : Q none s) :
    wpAny (model prog w) A (dictFind d .none h0) Q E s := by
  have hsz : es.size = xs.length := size_of_entries he
  have hmem : ∀ e ∈ es, ∃ x ∈ xs, e = entryOfKey (nestedKind prog w) x := by
    intro e hin
    have : e ∈ xs.map (entryOfKey (nestedKind prog w)) := he ▸ Array.mem_toList_iff.mpr hin
    obtain ⟨x, hx, rfl⟩ := List.mem_map.mp this
    exact ⟨x, hx, rfl⟩
  have hst : ∀ v ∈ (placesWithHash es.size (fun i => es[i]?.map (·.hash)) h0).filterMap (fun i => es[i]?.map (·.key)), ∃ k' b, v = .ref b ∧ (nestedKind prog w).is s.heap k' b := by
    intro v hv
    obtain ⟨i, _, hi⟩ := List.mem_filterMap.mp hv
    cases hei : es[i]? with
    | none => rw [hei] at hi; cases hi
    | some e =>
      rw [hei] at hi
      obtain rfl : e.key = v := by simpa using hi
      obtain ⟨x, hx, rfl⟩ := hmem e (Array.mem_of_getElem? hei)
      exact ⟨x.1, x.2.1, rfl, his x hx⟩
  unfold dictFind
  try with_reducible refine wpAny_holding ?_
  refine wpAny_bind (wpAny_dictEntries ho hd ?_)
  dsimp only
  generalize hp : placesWithHash es.size (fun i => es[i]?.map (·.hash)) h0 = places at hst ⊢
  have hpl : ∀ i ∈ places, ∃ x ∈ xs, es[i]? = some (entryOfKey (nestedKind prog w) x) := by
    intro i hi
    rw [← hp] at hi
    unfold placesWithHash at hi
    have h1 := (List.mem_filter.mp hi).1
    have hlt : i < es.size := by simpa using h1
    obtain ⟨x, hx, e⟩ := hmem es[i] (Array.getElem_mem hlt)
    exact ⟨x, hx, by rw [Array.getElem?_eq_getElem hlt, e]⟩
  by_cases hall : ((Value.none :: places.filterMap (fun i => es[i]?.map (·.key))).all carriedByValue) = true
  · rw [if_pos hall]
    have hnil : places = [] := by
      cases places with
      | nil => rfl
      | cons i r =>
        obtain ⟨x, hx, e⟩ := hpl i List.mem_cons_self
        rw [List.filterMap_cons, e] at hall
        simp [carriedByValue, entryOfKey] at hall
    rw [hnil]
    unfold dictWalkPlain
    exact wpAny_bind (wpAny_pure (wpAny_pure hq))
  · rw [if_neg hall]
    have hne : ¬ ((places.filterMap (fun i => es[i]?.map (·.key))) == [Value.none]) = true := by
      intro hc
      have e := beq_iff_eq.mp hc
      have hm : Value.none ∈ places.filterMap (fun i => es[i]?.map (·.key)) := by rw [e]; exact List.mem_cons_self
      obtain ⟨k', b, q, _⟩ := hst _ hm
      cases q
    rw [if_neg hne]
    have hquiet : ∀ {Q : Bool → Shared → Prop}, Q false s → wpAny (model prog w) A (tableMayTell .none (places.filterMap (fun i => es[i]?.map (·.key)))) Q E s := by
      intro Q h
      unfold tableMayTell
      split
      · exact wpAny_pure h
      · refine wpAny_bind (QuietAt.byValue rfl _ _ _ ?_)
        simp only [Bool.not_true, Bool.false_eq_true, if_false]
        refine wpAny_bind ?_
        refine wpAny_forIn_list _ (fun rest r s' => s' = s ∧ r = (none, ()) ∧ ∀ v ∈ rest, ∃ k' b, v = .ref b ∧ (nestedKind prog w).is s.heap k' b) _ ?_ ?_ _ _ ⟨rfl, rfl, hst⟩
        · rintro x rest r s' ⟨rfl, rfl, hr⟩
          obtain ⟨k', b, rfl, hb⟩ := hr x List.mem_cons_self
          refine wpAny_bind ((nestedKind prog w).quiet hb ?_)
          simp only [Bool.not_true, Bool.false_eq_true, if_false]
          exact wpAny_pure ⟨rfl, rfl, fun v hv => hr v (List.mem_cons_of_mem _ hv)⟩
        · rintro r s' ⟨rfl, rfl, _⟩
          exact wpAny_pure h
    refine wpAny_bind (hquiet ?_)
    rw [if_neg (by simp)]
    refine wpAny_bind ?_
    refine wpAny_forIn_list _ (fun rest b s' => s' = s ∧ b = (none, none) ∧ ∀ i ∈ rest, ∃ x ∈ xs, es[i]? = some (entryOfKey (nestedKind prog w) x)) _ ?_ ?_ _ _ ⟨rfl, rfl, hpl⟩
    · rintro i rest b s' ⟨rfl, rfl, hr⟩
      obtain ⟨x, hx, hex⟩ := hr i List.mem_cons_self
      have hr' : ∀ j ∈ rest, ∃ x ∈ xs, es[j]? = some (entryOfKey (nestedKind prog w) x) := fun j hj => hr j (List.mem_cons_of_mem _ hj)
      rw [hex]
      dsimp only
      by_cases hh : ((entryOfKey (nestedKind prog w) x).hash == h0) = true
      · rw [if_pos hh]
        have hk := his x hx
        have q : EqAt A s' (.ref x.2.1) .none false := by
          obtain ⟨z, z8⟩ := hk
          generalize ex : x.1 = kx at z z8
          cases z with
          | tup k1 k2 k3 k4 => exact EqAt.tuple_none ⟨_, k1, k2, _, k3⟩ (by omega)
        refine wpAny_bind (wpAny_dictEpoch ho hd (wpAny_bind (q _ _ _ _ (wpAny_bind (wpAny_dictEpoch ho hd ?_)))))
        rw [if_neg (by simp)]
        simp only [Bool.false_eq_true, if_false]
        refine wpAny_bind (wpAny_rule ?_)
        first
          | exact wpAny_pure ⟨rfl, rfl, hr'⟩
          | exact wpAny_bind (wpAny_pure (wpAny_pure ⟨rfl, rfl, hr'⟩))
      · rw [if_neg hh]
        exact wpAny_pure ⟨rfl, rfl, hr'⟩
    · rintro b s' ⟨rfl, rfl, _⟩
      exact wpAny_pure hq
section
variable {prog : Program} {w : World} {A : Around} {E : Value → Shared → Prop} {s : Shared} {d : Addr} {xs : List (NestedKey × Addr × Value)}
theorem get_noneN {Q : Option Value → Shared → Prop} (hu : A.units + 9 < cLine) (hm : s.heap.DictOfH (nestedKind prog w) d xs) (h : ∀ tk, Q none { s with toks := tk }) : wpAny (model prog w) A (dictGet d .none) Q E s := by
  obtain ⟨o, es, ep, ho, _, hd, he, his, hn⟩ := hm
  unfold dictGet
  try with_reducible refine wpAny_holding ?_
  refine wpAny_bind (pyHash_key .none .none A s _ .none (by show A.units + 0 < cLine; omega) (wpAny_bind (find_noneN (s := { s with toks := _ }) hu ho hd he his ?_)))
  exact wpAny_pure (h _)
theorem contains_noneN {Q : Bool → Shared → Prop} (hu : A.in1.units + 9 < cLine) (hd : (d == sysModules) = false) (hm : s.heap.DictOfH (nestedKind prog w) d xs)
    (h : ∀ tk, Q false { s with toks := tk }) : wpAny (model prog w) A (contains (.ref d) .none) Q E s := by
  refine wpAny_contains_slot hm.typeIs F.slot_dict_contains ?_
  refine call_meetsIn F.slot_dict_contains hm.typeIs F.entry_dict_contains (F.args_dict_contains_2 _ _) (S := fun A' R s' => A' = A ∧ s' = s ∧ ∀ tk, R (.ok (.ret (.bool false))) { s with toks := tk }) (fun A' R s' hS => ?_) ⟨rfl, rfl, fun tk => wpAny_truthy_bool (h tk)⟩
  obtain ⟨rfl, rfl, hq⟩ := hS
  show wpAny _ _ (dictGet d .none >>= _) _ _ _
  refine wpAny_bind (get_noneN hu hm fun tk => ?_)
  show wpAny _ _ (Builtin.Dict.pendingKey? d .none >>= _) _ _ _
  exact wpAny_bind (wpAny_pendingKey_other hd (wpAny_pure (hq tk)))
theorem in_noneN {Q : Value → Shared → Prop} (hu : A.in1.units + 9 < cLine) (hd : (d == sysModules) = false) (hm : s.heap.DictOfH (nestedKind prog w) d xs)
    (h : ∀ tk, Q (.bool false) { s with toks := tk }) : wpAny (model prog w) A (compareOp .In .none (.ref d)) Q E s := by
  show wpAny _ _ (do return .bool (← contains (.ref d) .none)) Q E s
  exact wpAny_bind (contains_noneN hu hd hm fun tk => wpAny_pure (h tk))
theorem notIn_noneN {Q : Value → Shared → Prop} (hu : A.in1.units + 9 < cLine) (hd : (d == sysModules) = false) (hm : s.heap.DictOfH (nestedKind prog w) d xs)
    (h : ∀ tk, Q (.bool true) { s with toks := tk }) : wpAny (model prog w) A (compareOp .NotIn .none (.ref d)) Q E s := by
  show wpAny _ _ (do return .bool (!(← contains (.ref d) .none))) Q E s
  exact wpAny_bind (contains_noneN hu hd hm fun tk => wpAny_pure (h tk))
end
section
open L2 PySem.Spec PyProof.Rows
variable {X : Cx} {cl : Cl} {W : WX} {o i e f a b : Expr} {pos pos' apos cpos : Pos} {A B C : Sl → Sto → R D}
theorem nIn_pc {neg : Bool} (hp : cl.pw = some (X.prog, X.w)) (hu : X.A.units + 65 < cLine) (hb : PE X b (tF (gx X cl) W B)) (ha : PE X a (tF (gx X cl) W A)) : PC X (if neg then .NotIn else .In) b a (tF (gx X cl) W (FNIn neg B A)) := by
  refine ⟨fun pins s σ H Q I ⟨ρ, σd, S, rel, oo⟩ => ?_⟩
  refine two_run I hb ha rel oo fun u w s2 x y H2 ρ2 S2 db da I2 rx ry rel2 tb ta o2 => ?_
  unfold opNIn at o2
  cases h1 : dtnAt S2 da with
  | none => rw [h1] at o2; exact o2.elim
  | some p =>
    obtain ⟨lk, kvs⟩ := p
    rw [h1] at o2
    obtain ⟨c, n, xs, R⟩ := dtn_rd I2 hp rel2.hp ta h1
    have ev := R.v
    subst ev
    cases (show w = Value.ref c from ry)
    cases h2 : tkN db with
    | none =>
      rw [h2] at o2
      cases db <;> first | exact o2.elim | skip
      cases tb
      cases (show u = Value.none from rx)
      have hu1 : X.A.in1.units + 9 < cLine := by show X.A.units + 1 + 9 < cLine; omega
      cases neg with
      | false => exact in_noneN hu1 R.sys R.dd fun tk => ⟨.bl false, H2, I2.tok _, rfl, Out.ret o2 rel2.hp rfl⟩
      | true => exact notIn_noneN hu1 R.sys R.dd fun tk => ⟨.bl true, H2, I2.tok _, rfl, Out.ret o2 rel2.hp rfl⟩
    | some k =>
      rw [h2] at o2
      dsimp only at o2
      obtain ⟨k1, k2, xs', rfl⟩ := tkN_of h2
      obtain ⟨q, vs, rfl, _⟩ := id tb
      cases (show u = Value.ref q from rx)
      have e : (atKey xs k).isSome = (getN kvs k).isSome := by
        cases h3 : getN kvs k with
        | none => rw [(getN_rv R.rn).1 h3]; rfl
        | some d =>
          obtain ⟨b', u', v', g1, _⟩ := (getN_rv R.rn).2 d h3
          rw [g1]; rfl
      cases neg with
      | false =>
        refine wpAny_in_heap (roomN hu) ⟨isN I2 _ _ _ _ tb rfl k1, k2⟩ R.sys R.dd ⟨.bl _, H2, I2.tok _, rfl, ?_⟩
        rw [e]
        exact Out.ret o2 rel2.hp rfl
      | true =>
        refine wpAny_notIn_heap (roomN hu) ⟨isN I2 _ _ _ _ tb rfl k1, k2⟩ R.sys R.dd ⟨.bl _, H2, I2.tok _, rfl, ?_⟩
        rw [e]
        exact Out.ret o2 rel2.hp rfl
theorem tb_imp {t : TE} {F : Sl → Sto → R D} (i : ∀ σ H Q, tF (gx X cl) W F σ H Q → t σ H Q) : ∀ σ H Q, tT (gx X cl) W (TB F) σ H Q → tB t σ H Q := fun σ H Q h => tb_of (fun Q q => i σ H Q q) h
theorem f_nin (hp : cl.pw = some (X.prog, X.w)) (hu : X.A.units + 65 < cLine) (hb : PE X b (tF (gx X cl) W B)) (ha : PE X a (tF (gx X cl) W A)) (hm : behindInMarks .In a = false := by rfl) : PE X (.Compare b [.In] [a] pos) (tF (gx X cl) W (FNIn false B A)) := pe_cmp (nIn_pc (neg := false) hp hu hb ha) hm
theorem f_nnotin (hp : cl.pw = some (X.prog, X.w)) (hu : X.A.units + 65 < cLine) (hb : PE X b (tF (gx X cl) W B)) (ha : PE X a (tF (gx X cl) W A)) (hm : behindInMarks .NotIn a = false := by rfl) : PE X (.Compare b [.NotIn] [a] pos) (tF (gx X cl) W (FNIn true B A)) := pe_cmp (nIn_pc (neg := true) hp hu hb ha) hm
theorem t_nin (hp : cl.pw = some (X.prog, X.w)) (hu : X.A.units + 65 < cLine) (hb : PE X b (tF (gx X cl) W B)) (ha : PE X a (tF (gx X cl) W A)) (hm : behindInMarks .In a = false := by rfl) : PT X (.Compare b [.In] [a] pos) (tT (gx X cl) W (TB (FNIn false B A))) := PT.imp (pt_cmp (nIn_pc (neg := false) hp hu hb ha) hm) (tb_imp fun _ _ _ h => h)
theorem t_nnotin (hp : cl.pw = some (X.prog, X.w)) (hu : X.A.units + 65 < cLine) (hb : PE X b (tF (gx X cl) W B)) (ha : PE X a (tF (gx X cl) W A)) (hm : behindInMarks .NotIn a = false := by rfl) : PT X (.Compare b [.NotIn] [a] pos) (tT (gx X cl) W (TB (FNIn true B A))) := PT.imp (pt_cmp (nIn_pc (neg := true) hp hu hb ha) hm) (tb_imp fun _ _ _ h => h)
/-- d[k] = v -/
def nputK (a b c : D) (σ : Sl) (S3 : Sto) : RS := match a, dtnAt S3 a, tkN b with
  | .loc n, some (false, kvs), some k => if kvs.length < line then .ok .nx σ (S3.set n (.dtn false (putN kvs k b c))) else .bad
  | _, _, _ => .bad
def SNPut (A B C : Sl → Sto → R D) : Sl → Sto → RS := fun σ S => toS σ (C σ S) fun c S1 => toS σ (A σ S1) fun a S2 => toS σ (B σ S2) fun b S3 => nputK a b c σ S3
theorem s_nput {value : Expr} (hp : cl.pw = some (X.prog, X.w)) (hu : X.A.units + 65 < cLine) (ho : PE X o (tF (gx X cl) W A)) (hi : PE X i (tF (gx X cl) W B)) (hv : PE X value (tF (gx X cl) W C)) (hs : swapsWith value (some (.Subscript o i pos')) pos.line X.env = pure false := by rfl) :
    PS X (.Assign [.Subscript o i pos'] value pos) (tS (gx X cl) W (SNPut A B C)) := by
  refine ⟨fun pins s σ H D' I ⟨ρ, σd, S, rel, oo⟩ => ?_⟩
  refine wpAny_Assign_Subscript (thn (hv.run pins s σ H (fun z H1 => ∃ ρ1 S1 c, Rel (gx X cl) ρ1 σ σd H1 S1 ∧ RV (gx X cl) ρ1 H1 c z ∧ OutS (gx X cl) W ρ1 H1 (toS σd (A σd S1) fun a S2 => toS σd (B σd S2) fun b S3 => nputK a b c σd S3) D') I (tG_toS rel oo fun c S1 z H1 ρ1 e1 rel1 t1 o1 => ⟨ρ1, S1, c, rel1, t1, o1⟩)) fun r s1 ⟨z, H1, I1, rz, ρ1, S1, c, rel1, t1, o1⟩ => ?_) hs
  refine thn (ho.run pins s1 σ H1 (fun x H2 => ∃ ρ2 S2 a, Rel (gx X cl) ρ2 σ σd H2 S2 ∧ RV (gx X cl) ρ2 H2 c z ∧ RV (gx X cl) ρ2 H2 a x ∧ OutS (gx X cl) W ρ2 H2 (toS σd (B σd S2) fun b S3 => nputK a b c σd S3) D') I1 (tG_toS rel1 o1 fun a S2 x H2 ρ2 e2 rel2 t2 o2 => ⟨ρ2, S2, a, rel2, t1.ext e2, t2, o2⟩)) fun u s2 ⟨x, H2, I2, rx, ρ2, S2, a, rel2, tc2, ta2, o2⟩ => ?_
  refine thn (hi.run pins s2 σ H2 (fun y H3 => ∃ ρ3 S3 b, Rel (gx X cl) ρ3 σ σd H3 S3 ∧ RV (gx X cl) ρ3 H3 c z ∧ RV (gx X cl) ρ3 H3 a x ∧ RV (gx X cl) ρ3 H3 b y ∧ OutS (gx X cl) W ρ3 H3 (nputK a b c σd S3) D') I2 (tG_toS rel2 o2 fun b S3 y H3 ρ3 e3 rel3 t3 o3 => ⟨ρ3, S3, b, rel3, tc2.ext e3, ta2.ext e3, t3, o3⟩)) fun v s3 ⟨y, H3, I3, ry, ρ3, S3, b, rel3, tc, ta, tb, o3⟩ => ?_
  unfold nputK at o3
  cases h1 : dtnAt S3 a with
  | none => rw [h1] at o3; cases a <;> exact o3.elim
  | some p =>
    obtain ⟨lk, kvs⟩ := p
    rw [h1] at o3
    obtain ⟨q, n, xs, R⟩ := dtn_rd I3 hp rel3.hp ta h1
    have ed := R.d; have ev := R.v
    subst ed; subst ev
    cases lk with
    | true => exact o3.elim
    | false =>
      cases h2 : tkN b with
      | none => rw [h2] at o3; exact o3.elim
      | some k =>
        rw [h2] at o3
        dsimp only at o3
        by_cases hl : kvs.length < line
        · rw [if_pos hl] at o3
          obtain ⟨k1, k2, xs', rfl⟩ := tkN_of h2
          obtain ⟨t, vs, rfl, _⟩ := id tb
          cases (show u = Value.ref q from rx)
          cases (show v = Value.ref t from ry)
          refine wpAny_setItem_heap (hsz := R.le) (roomN hu) ⟨isN I3 _ _ _ _ tb rfl k1, k2⟩ R.dd fun h' hm hs' => ?_
          obtain ⟨H4, I4, e4, r4⟩ := dtn_put (t' := _) I3 hp rel3.hp R hl k1 k2 tb tc rz hm hs'
          exact ⟨σ, H4, I4, OutS.now (OutS.mono e4 o3) (rel3.step e4 r4)⟩
        · rw [if_neg hl] at o3; exact o3.elim
/-- d.setdefault(k, x) -/
def nsdK (a b c : D) (S3 : Sto) : R D := match a, dtnAt S3 a, tkN b with
  | .loc n, some (false, kvs), some k => match getN kvs k with
    | some d => .ok d S3
    | none => if kvs.length < line then .ok c (S3.set n (.dtn false (putN kvs k b c))) else .bad
  | _, _, _ => .bad
def nsdA (B C : Sl → Sto → R D) (a : D) (σ : Sl) (S1 : Sto) : R D := match dtnAt S1 a with
  | some _ => (B σ S1).to fun b S2 => (C σ S2).to fun c S3 => nsdK a b c S3
  | none => .bad
def FNSd (A B C : Sl → Sto → R D) : Sl → Sto → R D := fun σ S => (A σ S).to fun a S1 => nsdA B C a σ S1
theorem dtn_is {pins : List (Addr × Obj)} {s : Shared} {σ : L2.St} {H : Hp} {ρ : List Addr} {S : Sto} {d : D} {v : V} {lk : Bool} {kvs : List (NestedKey × D × D)} {a : Addr} {n : Nat} {xs : List (NestedKey × Addr × Value)} (R : DtnR X cl ρ H S s d v lk kvs a n xs) :
    s.TypeIs (.ref a) "dict" ∧ (∀ b, Value.ref a = .ref b → ∃ ob, s.heap.get? b = some ob ∧ ob.dict = none) := by
  refine ⟨R.dd.typeIs, fun b q => ?_⟩
  cases q
  obtain ⟨ob, _, _, h1, h2, _⟩ := R.dd
  exact ⟨ob, h1, h2.2.1⟩
theorem f_nsd (hp : cl.pw = some (X.prog, X.w)) (hu : X.A.units + 65 < cLine) (ho : PE X o (tF (gx X cl) W A)) (he : PE X e (tF (gx X cl) W B)) (hf : PE X f (tF (gx X cl) W C)) (m : M2 X o "setdefault" apos e f cpos := by exact ⟨rfl, rfl, rfl, rfl⟩) :
    PE X (.Call (.Attribute o "setdefault" apos) [e, f] [] cpos) (tF (gx X cl) W (FNSd A B C)) := by
  refine ⟨fun pins s σ H Q I ⟨ρ, σd, S, rel, oo⟩ => ?_⟩
  refine wpAny_Call_method m.base m.few m.line PySem.F.plainAttrs_dict PySem.F.slot_dict_setdefault PySem.F.type_dict_setdefault (thn (ho.run pins s σ H (fun x H1 => ∃ ρ1 S1 a, Rel (gx X cl) ρ1 σ σd H1 S1 ∧ RV (gx X cl) ρ1 H1 a x ∧ Out (gx X cl) (RV (gx X cl)) W ρ1 σ H1 (nsdA B C a σd S1) Q) I (tG_to rel oo fun a S1 x H1 ρ1 e1 rel1 t1 o1 => ⟨ρ1, S1, a, rel1, t1, o1⟩)) fun u s1 ⟨x, H1, I1, rx, ρ1, S1, a, rel1, ta1, o1⟩ => ?_)
  unfold nsdA at o1
  cases h0 : dtnAt S1 a with
  | none => rw [h0] at o1; exact o1.elim
  | some p0 =>
    obtain ⟨lk0, kvs0⟩ := p0
    rw [h0] at o1
    obtain ⟨q, n, xs, R⟩ := dtn_rd I1 hp rel1.hp ta1 h0
    have ed := R.d; have ev := R.v
    subst ed; subst ev
    cases (show u = Value.ref q from rx)
    obtain ⟨t1, t2⟩ := dtn_is (pins := pins) (σ := σ) R
    refine ⟨t1, t2, ?_⟩
    rw [m.trees]
    refine Calls.callWith_builtin rfl (Calls.evalArgs_plain (Calls.spliced_cons (thn (he.run pins s1 σ H1 (fun y H2 => ∃ ρ2 S2 b, Rel (gx X cl) ρ2 σ σd H2 S2 ∧ RV (gx X cl) ρ2 H2 (.loc n) (.ref q) ∧ RV (gx X cl) ρ2 H2 b y ∧ Out (gx X cl) (RV (gx X cl)) W ρ2 σ H2 ((C σd S2).to fun c S3 => nsdK (.loc n) b c S3) Q) I1 (tG_to rel1 o1 fun b S2 y H2 ρ2 e2 rel2 t2 o2 => ⟨ρ2, S2, b, rel2, ta1.ext e2, t2, o2⟩)) fun iv s2 ⟨y, H2, I2, ry, ρ2, S2, b, rel2, ta2, tb2, o2⟩ =>
      Calls.spliced_cons (thn (hf.run pins s2 σ H2 (fun z H3 => ∃ ρ3 S3 c, Rel (gx X cl) ρ3 σ σd H3 S3 ∧ RV (gx X cl) ρ3 H3 (.loc n) (.ref q) ∧ RV (gx X cl) ρ3 H3 b y ∧ RV (gx X cl) ρ3 H3 c z ∧ Out (gx X cl) (RV (gx X cl)) W ρ3 σ H3 (nsdK (.loc n) b c S3) Q) I2 (tG_to rel2 o2 fun c S3 z H3 ρ3 e3 rel3 t3 o3 => ⟨ρ3, S3, c, rel3, ta2.ext e3, tb2.ext e3, t3, o3⟩)) fun fv s3 ⟨z, H3, I3, rz, ρ3, S3, c, rel3, ta, tb, tc, o3⟩ => Calls.spliced_nil ?_))))
    unfold nsdK at o3
    cases h1 : dtnAt S3 (.loc n) with
    | none => rw [h1] at o3; exact o3.elim
    | some p =>
      obtain ⟨lk, kvs⟩ := p
      rw [h1] at o3
      obtain ⟨q', n', xs', R⟩ := dtn_rd I3 hp rel3.hp ta h1
      have ed := R.d; have ev := R.v
      cases ed; cases ev
      cases lk with
      | true => exact o3.elim
      | false =>
        cases h2 : tkN b with
        | none => rw [h2] at o3; exact o3.elim
        | some k =>
          rw [h2] at o3
          dsimp only at o3
          obtain ⟨k1, k2, xs', rfl⟩ := tkN_of h2
          obtain ⟨t, vs, rfl, _⟩ := id tb
          cases (show iv = Value.ref t from ry)
          refine call_setdefault_heap (hsz := R.le) (roomN hu) ⟨isN I3 _ _ _ _ tb rfl k1, k2⟩ R.sys R.dd (fun p hp1 => ?_) (fun hn h' hm hs' => ?_)
          · cases h3 : getN kvs k with
            | none => rw [(getN_rv R.rn).1 h3] at hp1; cases hp1
            | some d =>
              rw [h3] at o3
              obtain ⟨b', u', v', g1, g2, g3⟩ := (getN_rv R.rn).2 d h3
              rw [hp1] at g1; cases g1
              exact ⟨v', H3, I3.tok _, g3, Out.ret o3 rel3.hp g2⟩
          · cases h3 : getN kvs k with
            | some d =>
              obtain ⟨b', u', v', g1, _⟩ := (getN_rv R.rn).2 d h3
              rw [hn] at g1; cases g1
            | none =>
              rw [h3] at o3
              dsimp only at o3
              by_cases hl : kvs.length < line
              · rw [if_pos hl] at o3
                obtain ⟨H4, I4, e4, r4⟩ := dtn_put (t' := _) I3 hp rel3.hp R hl k1 k2 tb tc rz hm hs'
                exact ⟨z, H4, I4, rz, o3 _ _ _ e4 r4 (tc.ext e4)⟩
              · rw [if_neg hl] at o3; exact o3.elim
end
end Mi
set_option Elab.async false
set_option autoImplicit false
set_option linter.all false
set_option maxRecDepth 100000
set_option maxHeartbeats 4000000
namespace Mi
open PySem PySem.Spec PyProof.Rows L2
/-! ### walks of a locked dict of tuple keys -/
section
variable {X : Cx} {pins : List (Addr × Obj)} {σ : L2.St} {H : Hp} {s : Shared} {d : Addr} {o : Obj} {xs : List (NestedKey × Addr × Value)}
/-- what is walked: the entries as they stand in the object -/
structure RawE (P : Program) (w : World) (d : Addr) (o : Obj) (u : HO) (xs : List (NestedKey × Addr × Value)) : Prop where
  ok : ∀ (H : Hp) (h : Heap), ObjOk P w H h d (.frz o u) → (d == sysModules) = false ∧ h.get? d = some o ∧ o.ExactDict ∧ ∃ (es : Array DictEntry) (ep : Nat), o.data = .dict es ep ∧ es.size = xs.length ∧
      ∀ (i : Nat) (x : NestedKey × Addr × Value), xs[i]? = some x → ∃ en : DictEntry, es[i]? = some en ∧ en.key = .ref x.2.1 ∧ en.val = x.2.2
theorem rawE_ext {P : Program} {w : World} : RawE P w d o (.ext (NkObj P w d xs)) xs := ⟨fun H h q => by
  obtain ⟨hd, ⟨z1, z2, o', es, ep, g1, g2, g3, g4, g5⟩, _⟩ := q
  rw [hd] at g1; cases g1
  refine ⟨z1, hd, g2, es, ep, g3, size_of_entries g4, fun i x e => ?_⟩
  have q := entry_at g4 i
  rw [e] at q
  exact ⟨_, q, rfl, rfl⟩⟩
theorem rawE_nil {P : Program} {w : World} : RawE P w d o (.dK []) [] := ⟨fun H h q => by
  obtain ⟨hd, z1, z2, vs, kv, o', es, ep, g1, g2, g3, g4, g5, g6⟩ := q
  rw [hd] at g1; cases g1
  cases kv
  have ee : es.toList = [] := by
    cases q : es.toList with
    | nil => rfl
    | cons a b => rw [q] at g5; cases g5
  refine ⟨z2, hd, g2, es, ep, g3, by rw [← Array.length_toList, ee]; rfl, fun i x e => by simp at e⟩⟩
/-- its keys, its pairs -/
def Itn (P : Program) (w : World) (d : Addr) (o : Obj) (u : HO) : It :=
  ⟨fun i H => H d = some (.frz o u) ∧ ∃ xs, RawE P w d o u xs ∧ i < xs.length, fun i H x H' => H' = H ∧ ∃ b, x = .ref b ∧ ∀ xs, RawE P w d o u xs → ∃ y, xs[i]? = some y ∧ b = y.2.1, fun i H => H d = some (.frz o u) ∧ ∃ xs, RawE P w d o u xs ∧ xs.length ≤ i⟩
def Itni (P : Program) (w : World) (d : Addr) (o : Obj) (u : HO) : It :=
  ⟨fun i H => H d = some (.frz o u) ∧ ∃ xs, RawE P w d o u xs ∧ (∃ y v, xs[i]? = some y ∧ L2.RelV v y.2.2), fun i H x H' => ∃ T b v, x = .ref T ∧ H T = none ∧ H' = upd H T (.tup [.ref b, v]) ∧ ∀ xs, RawE P w d o u xs → ∃ y, xs[i]? = some y ∧ b = y.2.1 ∧ L2.RelV v y.2.2, fun i H => H d = some (.frz o u) ∧ ∃ xs, RawE P w d o u xs ∧ xs.length ≤ i⟩
theorem relV_inj {v v' : V} {u : Value} (h : L2.RelV v u) (h' : L2.RelV v' u) : v = v' := by
  have key : ∀ {v : V} {u : Value}, L2.RelV v u → v = (match u with
      | .none => V.non
      | .bool b => .bl b
      | .int i _ => .int i
      | .str x _ => .str x
      | .bytes b _ => .byt b
      | .float b _ => .flt b
      | .ref a => .ref a
      | .type n => .ty n
      | _ => .non) := fun {v u} h => by
    cases v with
    | non => cases (show u = Value.none from h); rfl
    | bl b => cases (show u = Value.bool b from h); rfl
    | int i => obtain ⟨t, rfl⟩ : ∃ t, u = Value.int i t := h; rfl
    | str i => obtain ⟨t, rfl⟩ : ∃ t, u = Value.str i t := h; rfl
    | byt i => obtain ⟨t, rfl⟩ : ∃ t, u = Value.bytes i t := h; rfl
    | flt i => obtain ⟨t, rfl⟩ : ∃ t, u = Value.float i t := h; rfl
    | ref b => cases (show u = Value.ref b from h); rfl
    | ty b => cases (show u = Value.type b from h); rfl
  exact (key h).trans (key h').symm
end
section
variable {P : Program} {w : World} {K : PySem.W.Frag} {tg : Expr} {d : Addr} {o : Obj} {u : HO} {es : Array DictEntry} {ep : Nat} {xs : List (NestedKey × Addr × Value)}
theorem turn_keysN (it : Addr) (hod : o.data = .dict es ep) : Turn P w K tg (Itn P w d o u) [it] it (fun i h => h.IsKeyIter it d i es.size ep) where
  mem := by simp
  obj := fun i h st b hb => by
    have e : b = it := by simpa using hb
    subst e
    obtain ⟨oi, e, c, dd⟩ := st
    exact ⟨oi, e, fun v z => by rw [dd] at z; cases z⟩
  keep := fun i h h' st k => st.at fun oi e => k it (by simp) oi e
  item := by
    intro X hP hw hK hc i pins s σ H E I hf st hg
    subst hP hw hK
    obtain ⟨hd, xs, R, hi⟩ := hg
    obtain ⟨f0, f1, f2, f3, f4, f5⟩ := hf it (by simp)
    obtain ⟨hs, hgd, hx, es', ep', hdt, hsz, ent⟩ := R.ok _ _ (I.hok d _ hd)
    obtain ⟨rfl, rfl⟩ := dict_ep hod hdt
    obtain ⟨y, hy⟩ : ∃ p, xs[i]? = some p := ⟨xs[i], List.getElem?_eq_getElem hi⟩
    obtain ⟨en, hen, hkey, _⟩ := ent i y hy
    have all : ∀ zs, RawE X.prog X.w d o u zs → ∃ z, zs[i]? = some z ∧ y.2.1 = z.2.1 := fun zs R2 => by
      obtain ⟨_, _, _, es2, ep2, hdt2, hsz2, ent2⟩ := R2.ok _ _ (I.hok d _ hd)
      obtain ⟨rfl, rfl⟩ := dict_ep hod hdt2
      have hz : i < zs.length := by omega
      obtain ⟨en2, h1, h2, _⟩ := ent2 i zs[i] (List.getElem?_eq_getElem hz)
      rw [hen] at h1; cases h1
      rw [hkey] at h2
      injection h2 with h2
      exact ⟨zs[i], List.getElem?_eq_getElem hz, h2⟩
    refine next_key_item st hgd hdt rfl hen fun h' st' sb => ?_
    have I1 : Inv X pins σ H { s with heap := h' } := I.turned (t' := s.toks) (fun b ob hb e => (sb.2 b hb).trans e) f0 f1 f3 f4 f5
    obtain ⟨oi, e, c, dd⟩ := id st'
    exact ⟨en.key, rfl, go_of (s := { s with heap := h' }) e c dd (by decide) ⟨.ref y.2.1, H, I1, hkey, ⟨rfl, y.2.1, rfl, all⟩, st', fun b hb => (hf b hb).1⟩⟩
  done := by
    intro X hP hw hK hc i pins s σ H E I hf st hg
    subst hP hw hK
    obtain ⟨hd, xs, R, hi⟩ := hg
    obtain ⟨f0, f1, f2, f3, f4, f5⟩ := hf it (by simp)
    obtain ⟨hs, hgd, hx, es', ep', hdt, hsz, ent⟩ := R.ok _ _ (I.hok d _ hd)
    obtain ⟨rfl, rfl⟩ := dict_ep hod hdt
    exact next_key_end (I.ok.hd hc) st hgd hdt rfl (by omega) fun h' eb => ⟨rfl, I.turned (t' := s.toks) (fun b ob hb e => eb b ob hb e) f0 f1 f3 f4 f5⟩
  self := fun A i s Q E st h => by
    refine wpAny_pyIter_slot st.typeIs F.slot_dict_keyiterator_iter (wpAny_call_entry F.slot_dict_keyiterator_iter st.typeIs F.entry_dict_keyiterator_iter ?_ (F.args_dict_keyiterator_iter_1 _))
    show wpAny _ _ (ret (.ref it)) _ _ s
    exact wpAny_pure ⟨_, rfl, "dict_keyiterator", _, st.typeIs, F.slot_dict_keyiterator_next.lookup, h⟩
theorem turn_itemsN {elts : List Expr} {kk : Nat} {tpos : Pos} (it : Addr) (hod : o.data = .dict es ep) :
    Turn P w K (.Tuple elts kk tpos) (Itni P w d o u) [it] it (fun i h => ∃ ok ov, IsItemIter h it d i es.size ep ok ov) where
  mem := by simp
  obj := fun i h st b hb => by
    have e : b = it := by simpa using hb
    subst e
    obtain ⟨ok, ov, e⟩ := st
    exact ⟨_, e, fun v z => nomatch z⟩
  keep := fun i h h' st k => let ⟨ok, ov, e⟩ := st; ⟨ok, ov, k it (by simp) _ e⟩
  item := by
    intro X hP hw hK hc i pins s σ H E I hf st hg
    subst hP hw hK
    obtain ⟨hd, xs, R, y, v, hy, rv⟩ := hg
    obtain ⟨hs, hgd, hx, es', ep', hdt, hsz, ent⟩ := R.ok _ _ (I.hok d _ hd)
    obtain ⟨rfl, rfl⟩ := dict_ep hod hdt
    obtain ⟨en, hen, hkey, hval⟩ := ent i y hy
    obtain ⟨ok, ov, he⟩ := st
    have hlt : it < s.heap.objs.size := Heap.lt_size he
    have hi : i < es'.size := by
      obtain ⟨h1, _⟩ := Array.getElem?_eq_some_iff.mp hen
      exact h1
    have hee : es'[i] = en := by
      have := Array.getElem?_eq_getElem hi
      rw [hen] at this
      exact (Option.some.inj this).symm
    have all : ∀ zs, RawE X.prog X.w d o u zs → ∃ z, zs[i]? = some z ∧ y.2.1 = z.2.1 ∧ L2.RelV v z.2.2 := fun zs R2 => by
      obtain ⟨_, _, _, es2, ep2, hdt2, hsz2, ent2⟩ := R2.ok _ _ (I.hok d _ hd)
      obtain ⟨rfl, rfl⟩ := dict_ep hod hdt2
      have hz : i < zs.length := by omega
      obtain ⟨en2, h1, h2, h3⟩ := ent2 i zs[i] (List.getElem?_eq_getElem hz)
      rw [hen] at h1; cases h1
      rw [hkey] at h2
      injection h2 with h2
      exact ⟨zs[i], List.getElem?_eq_getElem hz, h2, by rw [← h3, hval]; exact rv⟩
    refine wpAny_pyNext_items_item_raw he ⟨o, hgd, hx, hdt⟩ hi fun h' ho hT hz hk => ?_
    rw [hee, hkey, hval] at ho hT
    refine ⟨_, rfl, wpAny_letOwnedTupleGo_items (s := { s with heap := h' }) ho fun h'' he' sb => ?_⟩
    have hT2 : h''.get? s.heap.objs.size = some { cls := .type "tuple", data := .seq #[.ref y.2.1, y.2.2] } := (sb.2 _ (Nat.ne_of_gt hlt)).trans hT
    have new : ObjOk X.prog X.w (upd H s.heap.objs.size (.tup [.ref y.2.1, v])) h'' s.heap.objs.size (.tup [.ref y.2.1, v]) :=
      ⟨by show 2 ≤ sizeLine; decide, [.ref y.2.1, y.2.2], .cons rfl (.cons rv .nil), ⟨_, hT2, rfl, _, rfl⟩⟩
    have I1 : Inv X pins σ (upd H s.heap.objs.size (.tup [.ref y.2.1, v])) { s with heap := h'' } :=
      I.turnedNew (t' := s.toks) (ch := [it]) (fun b ob hb e => (sb.2 b (by simpa using hb)).trans (hk b ob (by simpa using hb) e)) hf (Nat.le_refl _) new
    refine ⟨.ref s.heap.objs.size, _, I1, rfl, ⟨_, y.2.1, v, rfl, I.hok.fresh (Nat.le_refl _), rfl, all⟩, ⟨.ref y.2.1, y.2.2, he'⟩, fun b hb => ?_⟩
    have e : b = it := by simpa using hb
    rw [e, upd_ne (Nat.ne_of_lt hlt)]
    exact (hf it (by simp)).1
  done := by
    intro X hP hw hK hc i pins s σ H E I hf st hg
    subst hP hw hK
    obtain ⟨hd, xs, R, hi⟩ := hg
    obtain ⟨f0, f1, f2, f3, f4, f5⟩ := hf it (by simp)
    obtain ⟨hs, hgd, hx, es', ep', hdt, hsz, ent⟩ := R.ok _ _ (I.hok d _ hd)
    obtain ⟨rfl, rfl⟩ := dict_ep hod hdt
    obtain ⟨ok, ov, he⟩ := st
    exact wpAny_pyNext_items_end_raw (I.ok.hd hc) he ⟨o, hgd, hx, hdt⟩ (by omega) fun h' eb => ⟨rfl, I.turned (t' := s.toks) (fun b ob hb e => eb b ob hb e) f0 f1 f3 f4 f5⟩
  self := fun A i s Q E st h => let ⟨_, _, e⟩ := st; PySem.W.kcp_self e h
end
/-! ### what is walked, by data -/
section
variable {X : Cx} {cl : Cl} {W : WX} {tg e : Expr} {apos cpos : Pos} {A : Sl → Sto → R D}
structure LkR (X : Cx) (cl : Cl) (ρ : List Addr) (H : Hp) (a : Addr) (o : Obj) (u : HO) (xs : List (NestedKey × Addr × Value)) (kvs : List (NestedKey × D × D)) : Prop where
  h : H a = some (.frz o u)
  R : RawE X.prog X.w a o u xs
  rn : RNs (gx X cl) ρ H kvs xs
theorem lk_of (hp : cl.pw = some (X.prog, X.w)) {ρ : List Addr} {H : Hp} {S : Sto} {n : Nat} {a : Addr} {kvs : List (NestedKey × D × D)} (r : RelH (gx X cl) ρ H S) (ha : ρ[n]? = some a) (h : lkN S n = some kvs) : ∃ o u xs, LkR X cl ρ H a o u xs kvs := by
  unfold lkN at h
  split at h
  · rename_i kvs' e
    cases h
    obtain ⟨P, w, xs, o, e0, e1, rn⟩ := r.obj n a _ ha e
    have e0' : cl.pw = some (P, w) := e0
    rw [hp] at e0'; cases e0'
    exact ⟨o, _, xs, e1, rawE_ext, rn⟩
  · rename_i e
    cases h
    obtain ⟨ks, o, e1, rk⟩ := r.obj n a _ ha e
    cases rk
    exact ⟨o, _, [], e1, rawE_nil, rfl⟩
  · cases h
theorem frz_inj {H : Hp} {a : Addr} {o o' : Obj} {u u' : HO} (h : H a = some (.frz o u)) (h' : H a = some (.frz o' u')) : o' = o ∧ u' = u := by
  rw [h] at h'
  cases h'
  exact ⟨rfl, rfl⟩
def IKN (F : Sl → Sto → R D) : Sl → Sto → R Src := fun σ S => (F σ S).to fun d S1 => match d with
  | .loc n => match lkN S1 n with
    | some _ => .ok (.keysN n) S1
    | none => .bad
  | _ => .bad
def IIN (F : Sl → Sto → R D) : Sl → Sto → R Src := fun σ S => (F σ S).to fun d S1 => match d with
  | .loc n => match lkN S1 n with
    | some _ => .ok (.itemsN n) S1
    | none => .bad
  | _ => .bad
theorem i_keysN (hp : cl.pw = some (X.prog, X.w)) (he : PE X e (tF (gx X cl) W A)) : PI X tg e (tI (gx X cl) W (IKN A)) := by
  refine ⟨fun pins s σ H R I ⟨ρ, σd, S, rel, oo⟩ => ?_⟩
  refine thn (he.run pins s σ H (fun x H1 => ∃ ρ1 S1 n a o u xs kvs, x = .ref a ∧ RelH (gx X cl) ρ1 H1 S1 ∧ ρ1[n]? = some a ∧ LkR X cl ρ1 H1 a o u xs kvs ∧ Out (gx X cl) (fun ρ H s J => ItOk (gx X cl) ρ H s J) W ρ1 σ H1 (.ok (.keysN n) S1) R) I (tG_to rel oo fun d S1 x H1 ρ1 e1 rel1 t1 o1 => ?_)) fun uv s1 ⟨x, H1, I1, rx, ρ1, S1, n, a, o, u, xs, kvs, ex, r1, ha, L, o1⟩ => ?_
  · cases d <;> first | exact o1.elim | skip
    rename_i n
    dsimp only at o1
    cases hl : lkN S1 n with
    | none => rw [hl] at o1; exact o1.elim
    | some kvs =>
      rw [hl] at o1
      obtain ⟨a, rfl, ha⟩ := t1
      obtain ⟨o, u, xs, L⟩ := lk_of hp rel1.hp ha hl
      exact ⟨ρ1, S1, n, a, o, u, xs, kvs, rfl, rel1.hp, ha, L, o1⟩
  · subst ex
    cases (show uv = Value.ref a from rx)
    obtain ⟨hs, hgd, hx, es, ep, hdt, hsz, ent⟩ := L.R.ok _ _ (I1.hok a _ L.h)
    refine iter_keys hs hgd hx hdt (pi_one (tk := s1.toks) I1 _ (turn_keysN (u := u) _ hdt) ⟨_, Heap.get?_push_size _ rfl, rfl, rfl⟩ (Out.ret o1 r1 ⟨fun ρ' H' S' i e r hn => ?_, fun ρ' H' S' i d e r hn => ?_⟩))
    · have f1 := e.frz _ _ _ L.h
      unfold nextI at hn
      dsimp only at hn
      cases hl : lkN S' n with
      | none => rw [hl] at hn; cases hn
      | some kvs' =>
        rw [hl] at hn; dsimp only at hn
        obtain ⟨o', u', xs', L'⟩ := lk_of hp r (e.get ha) hl
        obtain ⟨rfl, rfl⟩ := frz_inj f1 L'.h
        refine ⟨f1, xs', L'.R, ?_⟩
        rw [← L'.rn.length]
        refine List.getElem?_eq_none_iff.mp ?_
        cases q : kvs'[i]? with
        | none => rfl
        | some p => rw [q] at hn; cases hn
    · have f1 := e.frz _ _ _ L.h
      unfold nextI at hn
      dsimp only at hn
      cases hl : lkN S' n with
      | none => rw [hl] at hn; cases hn
      | some kvs' =>
        rw [hl] at hn; dsimp only at hn
        obtain ⟨o', u', xs', L'⟩ := lk_of hp r (e.get ha) hl
        obtain ⟨rfl, rfl⟩ := frz_inj f1 L'.h
        cases q : kvs'[i]? with
        | none => rw [q] at hn; cases hn
        | some p =>
          rw [q] at hn; cases hn
          obtain ⟨b, uu, v, hb, rk, rv, rr⟩ := L'.rn.get q
          refine ⟨⟨f1, xs', L'.R, (List.getElem?_eq_some_iff.mp hb).1⟩, fun x H2 ⟨eH, b', ex, all⟩ => ?_⟩
          subst eH; subst ex
          obtain ⟨y, hy, ey⟩ := all xs' L'.R
          rw [hb] at hy; cases hy
          subst ey
          exact ⟨Ext.refl, r, rk⟩
theorem i_itemsN {elts : List Expr} {kk : Nat} {tpos : Pos} (hp : cl.pw = some (X.prog, X.w)) (he : PE X e (tF (gx X cl) W A)) (hbase : attributeBase e "items" X.env (eval e X.env) = eval e X.env := by rfl) (hline : (apos.endLine == cpos.line) = true := by rfl) :
    PI X (.Tuple elts kk tpos) (.Call (.Attribute e "items" apos) [] [] cpos) (tI (gx X cl) W (IIN A)) := by
  refine ⟨fun pins s σ H R I ⟨ρ, σd, S, rel, oo⟩ => ?_⟩
  refine wpAny_Call_method (T := "dict") (id := "dict.items") hbase rfl hline F.plainAttrs_dict F.slot_dict_items F.type_dict_items (thn (he.run pins s σ H (fun x H1 => ∃ ρ1 S1 n a o u xs kvs, x = .ref a ∧ RelH (gx X cl) ρ1 H1 S1 ∧ ρ1[n]? = some a ∧ LkR X cl ρ1 H1 a o u xs kvs ∧ Out (gx X cl) (fun ρ H s J => ItOk (gx X cl) ρ H s J) W ρ1 σ H1 (.ok (.itemsN n) S1) R) I (tG_to rel oo fun d S1 x H1 ρ1 e1 rel1 t1 o1 => ?_)) fun uv s1 ⟨x, H1, I1, rx, ρ1, S1, n, a, o, u, xs, kvs, ex, r1, ha, L, o1⟩ => ?_)
  · cases d <;> first | exact o1.elim | skip
    rename_i n
    dsimp only at o1
    cases hl : lkN S1 n with
    | none => rw [hl] at o1; exact o1.elim
    | some kvs =>
      rw [hl] at o1
      obtain ⟨a, rfl, ha⟩ := t1
      obtain ⟨o, u, xs, L⟩ := lk_of hp rel1.hp ha hl
      exact ⟨ρ1, S1, n, a, o, u, xs, kvs, rfl, rel1.hp, ha, L, o1⟩
  · subst ex
    cases (show uv = Value.ref a from rx)
    obtain ⟨hs, hgd, hx, es, ep, hdt, hsz, ent⟩ := L.R.ok _ _ (I1.hok a _ L.h)
    have hraw : s1.heap.DictRaw a es ep := ⟨o, hgd, hx, hdt⟩
    have hnd : ∀ b, Value.ref a = .ref b → ∃ ob, s1.heap.get? b = some ob ∧ ob.dict = none := fun b q => by cases q; exact ⟨o, hgd, hx.2.1⟩
    refine ⟨hraw.typeIs, hnd, ?_⟩
    have I2 : Inv X pins σ H1 { s1 with heap := s1.heap.push { cls := .type "dict_items", data := .fields #[.ref a] } } := I1.kept (t' := s1.toks) fun b ob q => Heap.get?_push_of_some _ q
    have fin : wpAny (model X.prog X.w) X.A (pyIter (.ref s1.heap.objs.size)) (PIE X pins σ (.Tuple elts kk tpos) R) X.xe { s1 with heap := s1.heap.push { cls := .type "dict_items", data := .fields #[.ref a] } } := by
      refine wpAny_pyIter_items_raw (d := a) ⟨_, Heap.get?_push_size _ rfl, rfl, rfl⟩ (hraw.at fun o q => Heap.get?_push_of_some _ q) (pi_one (tk := s1.toks) I2 _ (turn_itemsN (u := u) _ hdt) ⟨.none, .none, Heap.get?_push_size _ rfl⟩ (Out.ret o1 r1 ⟨fun ρ' H' S' i e r hn => ?_, fun ρ' H' S' i d e r hn => ?_⟩))
      · have f1 := e.frz _ _ _ L.h
        unfold nextI at hn
        dsimp only at hn
        cases hl : lkN S' n with
        | none => rw [hl] at hn; cases hn
        | some kvs' =>
          rw [hl] at hn; dsimp only at hn
          obtain ⟨o', u', xs', L'⟩ := lk_of hp r (e.get ha) hl
          obtain ⟨rfl, rfl⟩ := frz_inj f1 L'.h
          refine ⟨f1, xs', L'.R, ?_⟩
          rw [← L'.rn.length]
          refine List.getElem?_eq_none_iff.mp ?_
          cases q : kvs'[i]? with
          | none => rfl
          | some p => rw [q] at hn; cases hn
      · have f1 := e.frz _ _ _ L.h
        unfold nextI at hn
        dsimp only at hn
        cases hl : lkN S' n with
        | none => rw [hl] at hn; cases hn
        | some kvs' =>
          rw [hl] at hn; dsimp only at hn
          obtain ⟨o', u', xs', L'⟩ := lk_of hp r (e.get ha) hl
          obtain ⟨rfl, rfl⟩ := frz_inj f1 L'.h
          cases q : kvs'[i]? with
          | none => rw [q] at hn; cases hn
          | some p =>
            rw [q] at hn; cases hn
            obtain ⟨b, uu, v, hb, rk, rv, rr⟩ := L'.rn.get q
            refine ⟨⟨f1, xs', L'.R, _, v, hb, rr⟩, fun x H2 ⟨T, b', v', ex, hT, eH, all⟩ => ?_⟩
            subst eH; subst ex
            obtain ⟨y, hy, ey, rv'⟩ := all xs' L'.R
            rw [hb] at hy; cases hy
            subst ey
            cases relV_inj rr rv'
            have e2 : Ext (gx X cl) ρ' ρ' H' (upd H' T (.tup [.ref b', v])) := Ext.new hT
            exact ⟨e2, r.side hT, T, _, rfl, SqT.of upd_same, _, _, rfl, rk.ext e2, _, _, rfl, rv.ext e2, rfl⟩
    show wpAny _ _ (callWith cpos (.builtin "dict.items") [.ref a] [] []) _ X.xe s1
    exact method_meetsIn F.slot_dict_items F.entry_dict_items rfl (PySem.evalArgs_none ⟨rfl, hraw.typeIs, F.args_dict_items_1 _, _, meets_dict_items_raw a hs, ⟨es, ep, hraw⟩, fin⟩)
end
end Mi
set_option Elab.async false
set_option autoImplicit false
set_option linter.all false
set_option maxRecDepth 100000
set_option maxHeartbeats 4000000
namespace Mi
open PySem L2
/-! ### locks of any dict -/
theorem unlock_okG {G : Ct} {ρ ρ' : List Addr} {H H' : Hp} {S' : Sto} {n : Nat} {a : Addr} {u : HO} {od : Obj} {oL oU : O} (hn : ρ[n]? = some a) (hH : H a = some u) (mu : Mut (some u)) (nl : ∀ xs, u ≠ .lst xs) (e : Ext G ρ ρ' (upd H a (.frz od u)) H') (r : RelH G ρ' H' S') (hs : S'[n]? = some oL)
    (hom : H' a = some (.frz od u) → OM G ρ' H' a oL → ∀ H'', ExtW G ρ' ρ' H' H'' → H'' a = some u → OM G ρ' H'' a oU) :
    H' a = some (.frz od u) ∧ Ext G ρ ρ' H (upd H' a u) ∧ RelH G ρ' (upd H' a u) (S'.set n oU) ∧ ExtW G ρ' ρ' H' (upd H' a u) := by
  have h1 : H' a = some (.frz od u) := e.frz _ _ _ upd_same
  have hn' := Ext.get e hn
  have nt : ∀ xs, u ≠ .tup xs := fun xs z => by subst z; exact mu
  have nf : ∀ o x, u ≠ .frz o x := fun o x z => by subst z; exact mu
  have nx : ∀ x, u ≠ .xd x := fun x z => by subst z; exact mu
  have w : ExtW G ρ' ρ' H' (upd H' a u) := by
    refine ⟨⟨[], by simp⟩, fun b xs q => ?_, fun b o xs q => ?_, fun b xs q => ?_⟩
    · refine sqt_ne ?_ ?_ ?_ q
      · rw [h1]; intro z; cases z
      · intro xs z; rw [h1] at z; cases z
      · intro o xs z; rw [h1] at z; cases z; exact mu
    · rw [upd_ne (fun z => by subst z; rw [h1] at q; cases q; exact nl _ rfl)]; exact q
    · rw [upd_ne (fun z => by subst z; rw [h1] at q; cases q)]; exact q
  refine ⟨h1, ⟨e.pre, fun b xs q => w.tup _ _ (e.tup _ _ ?_), fun b o x q => ?_, fun b x q => ?_⟩, ?_, w⟩
  · refine sqt_ne ?_ ?_ ?_ q
    · rw [hH]; intro z; cases z
    · intro xs z; rw [hH] at z; cases z; exact nt _ rfl
    · intro o xs z; rw [hH] at z; cases z; exact nf _ _ rfl
  · have hb : b ≠ a := fun z => by subst z; rw [hH] at q; cases q; exact nf _ _ rfl
    rw [upd_ne hb]
    exact e.frz _ _ _ (by rw [upd_ne hb]; exact q)
  · have hb : b ≠ a := fun z => by subst z; rw [hH] at q; cases q; exact nx _ rfl
    rw [upd_ne hb]
    exact e.xd _ _ (by rw [upd_ne hb]; exact q)
  · have q := r.obj n a _ hn' hs
    refine ⟨by simp [r.len], r.nd, fun m b x p1 p2 => ?_⟩
    by_cases em : n = m
    · subst em
      rw [hn'] at p1; cases p1
      have hl : n < S'.length := (List.getElem?_eq_some_iff.mp hs).1
      rw [List.getElem?_set_self hl] at p2
      cases p2
      exact hom h1 q _ w upd_same
    · rw [List.getElem?_set_ne em] at p2
      refine (r.obj m b x p1 p2).extW w (upd_ne fun z => ?_)
      subst z
      obtain ⟨i1, r1⟩ := List.getElem?_eq_some_iff.mp hn'
      obtain ⟨i2, r2⟩ := List.getElem?_eq_some_iff.mp p1
      exact em ((List.getElem_inj r.nd).mp (r1.trans r2.symm))
/-- the store with the dict n locked, unlocked -/
def lockO : O → Option O
  | .dct false kvs => some (.dct true kvs)
  | .dtn false kvs => some (.dtn true kvs)
  | _ => none
def unlockO : O → Option O
  | .dct true kvs => some (.dct false kvs)
  | .dtn true kvs => some (.dtn false kvs)
  | _ => none
def lockSN (n : Nat) (S : Sto) : Option Sto := match S[n]? with
  | some o => match lockO o with
    | some o' => some (S.set n o')
    | none => none
  | none => none
def unlockSN (n : Nat) (S : Sto) : Option Sto := match S[n]? with
  | some o => match unlockO o with
    | some o' => some (S.set n o')
    | none => none
  | none => none
theorem lockSN_of {n : Nat} {S S' : Sto} (h : lockSN n S = some S') : ∃ o o', S[n]? = some o ∧ lockO o = some o' ∧ S' = S.set n o' := by
  unfold lockSN at h
  split at h
  · rename_i o e
    split at h
    · rename_i o' e'
      cases h
      exact ⟨o, o', e, e', rfl⟩
    · cases h
  · cases h
theorem unlockSN_of {n : Nat} {S S' : Sto} (h : unlockSN n S = some S') : ∃ o o', S[n]? = some o ∧ unlockO o = some o' ∧ S' = S.set n o' := by
  unfold unlockSN at h
  split at h
  · rename_i o e
    split at h
    · rename_i o' e'
      cases h
      exact ⟨o, o', e, e', rfl⟩
    · cases h
  · cases h
theorem om_lock {G : Ct} {ρ : List Addr} {H : Hp} {a : Addr} {o o' : O} (hl : lockO o = some o') (h : OM G ρ H a o) : ∃ u, H a = some u ∧ Mut (some u) ∧ (∀ xs, u ≠ .lst xs) ∧ ∀ od H', ExtW G ρ ρ H H' → H' a = some (.frz od u) → OM G ρ H' a o' := by
  cases o with
  | lst xs => cases hl
  | ins c ds => cases hl
  | dct lk kvs =>
    cases lk with
    | true => cases hl
    | false =>
      cases hl
      obtain ⟨ks, h1, h2⟩ := h
      exact ⟨_, h1, trivial, (fun _ z => by cases z), fun od H' w e => ⟨ks, od, e, h2.extW w⟩⟩
  | dtn lk kvs =>
    cases lk with
    | true => cases hl
    | false =>
      cases hl
      obtain ⟨P, w, xs, h0, h1, h2⟩ := h
      exact ⟨_, h1, trivial, (fun _ z => by cases z), fun od H' w' e => ⟨P, w, xs, od, h0, e, h2.extW w'⟩⟩
theorem om_unlock {G : Ct} {ρ : List Addr} {H : Hp} {a : Addr} {o o' : O} {u : HO} {od : Obj} (hl : unlockO o = some o') (h1 : H a = some (.frz od u)) (h : OM G ρ H a o) : ∀ H', ExtW G ρ ρ H H' → H' a = some u → OM G ρ H' a o' := by
  intro H' w e
  cases o with
  | lst xs => cases hl
  | ins c ds => cases hl
  | dct lk kvs =>
    cases lk with
    | false => cases hl
    | true =>
      cases hl
      obtain ⟨ks, o2, g1, g2⟩ := h
      rw [h1] at g1; cases g1
      exact ⟨ks, e, g2.extW w⟩
  | dtn lk kvs =>
    cases lk with
    | false => cases hl
    | true =>
      cases hl
      obtain ⟨P, w', xs, o2, g0, g1, g2⟩ := h
      rw [h1] at g1; cases g1
      exact ⟨P, w', xs, g0, e, g2.extW w⟩
/-- a statement that walks the dict in slot i -/
def SLockN (i : Nat) (B : Sl → Sto → RS) : Sl → Sto → RS := fun σ S => match σ[i]? with
  | some (some (.loc n)) => match lockSN n S with
    | some S1 => match B σ S1 with
      | .ok f σ2 S2 => match unlockSN n S2 with
        | some S3 => .ok f σ2 S3
        | none => .bad
      | _ => .bad
    | none => .bad
  | _ => .bad
def FLockN (i : Nat) (B : Sl → Sto → R D) : Sl → Sto → R D := fun σ S => match σ[i]? with
  | some (some (.loc n)) => match lockSN n S with
    | some S1 => match B σ S1 with
      | .ok d S2 => match unlockSN n S2 with
        | some S3 => .ok d S3
        | none => .bad
      | _ => .bad
    | none => .bad
  | _ => .bad
section
variable {X : Cx} {cl : Cl} {W : WX}
theorem s_lockN {st : Stmt} {i : Nat} {B : Sl → Sto → RS} (h : PS X st (tS (gx X cl) W B)) : PS X st (tS (gx X cl) W (SLockN i B)) := by
  refine PS.imp (ps_lock h) fun D σ H ⟨ρ, σd, S, rel, o⟩ => ?_
  unfold SLockN at o
  cases e0 : σd[i]? with
  | none => rw [e0] at o; exact o.elim
  | some od =>
    cases od with
    | none => rw [e0] at o; exact o.elim
    | some d =>
      rw [e0] at o
      cases d <;> first | exact o.elim | skip
      rename_i n
      dsimp only at o
      obtain ⟨v, ev, rv⟩ := rel.sl i _ e0
      have rv := rv.rv (by intro _ _ z; cases z)
      cases hl : lockSN n S with
      | none => rw [hl] at o; exact o.elim
      | some S1 =>
        rw [hl] at o
        dsimp only at o
        obtain ⟨o1, o2, hs, ho, rfl⟩ := lockSN_of hl
        obtain ⟨a, rfl, hn⟩ := rv
        obtain ⟨u, hH, mu, nl, hom⟩ := om_lock ho (rel.hp.obj n a _ hn hs)
        refine ⟨a, u, hH, mu, fun od => ?_⟩
        have muH : Mut (H a) := by rw [hH]; exact mu
        have ew : Ext (gx X cl) ρ ρ H (upd H a (.frz od u)) := Ext.write muH
        have r1 : RelH (gx X cl) ρ (upd H a (.frz od u)) (S.set n o2) := rel.hp.write hn muH (hom od _ ew.w upd_same)
        refine ⟨ρ, σd, _, rel.step ew r1, ?_⟩
        cases eB : B σd (S.set n o2) with
        | bad => rw [eB] at o; exact o.elim
        | ex c fs σ2 S2 => rw [eB] at o; exact o.elim
        | ok f σ2 S2 =>
          rw [eB] at o
          dsimp only at o
          cases hu : unlockSN n S2 with
          | none => rw [hu] at o; exact o.elim
          | some S3 =>
            rw [hu] at o
            obtain ⟨o3, o4, hs2, ho2, rfl⟩ := unlockSN_of hu
            intro σ' H' ρ' e2 rel2
            obtain ⟨q1, q2, q3, q4⟩ := unlock_okG (oU := o4) hn hH mu nl e2 rel2.hp hs2 fun g1 g2 => om_unlock ho2 g1 g2
            have q := o σ' _ ρ' q2 (rel2.extW q4 q3)
            cases f with
            | nx => exact ⟨q1, q⟩
            | bk => exact ⟨q1, q⟩
            | ct => exact ⟨q1, q⟩
            | rt d => exact fun v rd => ⟨q1, q v (RV.extW q4 _ _ rd)⟩
theorem f_lockN {e : Expr} {i : Nat} {B : Sl → Sto → R D} (h : PE X e (tF (gx X cl) W B)) : PE X e (tF (gx X cl) W (FLockN i B)) := by
  refine PE.imp (pe_lock h) fun σ H Q ⟨ρ, σd, S, rel, o⟩ => ?_
  unfold FLockN at o
  cases e0 : σd[i]? with
  | none => rw [e0] at o; exact o.elim
  | some od =>
    cases od with
    | none => rw [e0] at o; exact o.elim
    | some d =>
      rw [e0] at o
      cases d <;> first | exact o.elim | skip
      rename_i n
      dsimp only at o
      obtain ⟨v, ev, rv⟩ := rel.sl i _ e0
      have rv := rv.rv (by intro _ _ z; cases z)
      cases hl : lockSN n S with
      | none => rw [hl] at o; exact o.elim
      | some S1 =>
        rw [hl] at o
        dsimp only at o
        obtain ⟨o1, o2, hs, ho, rfl⟩ := lockSN_of hl
        obtain ⟨a, rfl, hn⟩ := rv
        obtain ⟨u, hH, mu, nl, hom⟩ := om_lock ho (rel.hp.obj n a _ hn hs)
        refine ⟨a, u, hH, mu, fun od => ?_⟩
        have muH : Mut (H a) := by rw [hH]; exact mu
        have ew : Ext (gx X cl) ρ ρ H (upd H a (.frz od u)) := Ext.write muH
        have r1 : RelH (gx X cl) ρ (upd H a (.frz od u)) (S.set n o2) := rel.hp.write hn muH (hom od _ ew.w upd_same)
        refine ⟨ρ, σd, _, rel.step ew r1, ?_⟩
        cases eB : B σd (S.set n o2) with
        | bad => rw [eB] at o; exact o.elim
        | ex c fs S2 => rw [eB] at o; exact o.elim
        | ok d S2 =>
          rw [eB] at o
          dsimp only at o
          cases hu : unlockSN n S2 with
          | none => rw [hu] at o; exact o.elim
          | some S3 =>
            rw [hu] at o
            obtain ⟨o3, o4, hs2, ho2, rfl⟩ := unlockSN_of hu
            intro v H' ρ' e2 rel2 rd
            obtain ⟨q1, q2, q3, q4⟩ := unlock_okG (oU := o4) hn hH mu nl e2 rel2 hs2 fun g1 g2 => om_unlock ho2 g1 g2
            exact ⟨q1, o v _ ρ' q2 q3 (RV.extW q4 _ _ rd)⟩
end
/-! ### list(d), len(d) -/
section
variable {X : Cx} {cl : Cl} {W : WX}
/-- a dict of the store: any -/
def fnListN : DN := fun ds S => match ds with
  | [d] => match dtnAt S d with
    | some (_, kvs) => newLst (kvs.map fun p => p.2.1) S
    | none => .bad
  | _ => .bad
def rN (X : Cx) (cl : Cl) (W : WX) (σ : L2.St) (f : DN) : List V → Hp → VK → Prop := fun xs H Q => ∃ ρ S ds, RelH (gx X cl) ρ H S ∧ RVs (gx X cl) ρ H ds xs ∧ Out (gx X cl) (RV (gx X cl)) W ρ σ H (f ds S) Q
theorem rns_keys {ρ : List Addr} {H : Hp} : ∀ {kvs : List (NestedKey × D × D)} {xs : List (NestedKey × Addr × Value)}, RNs (gx X cl) ρ H kvs xs → RVs (gx X cl) ρ H (kvs.map fun p => p.2.1) (xs.map fun x => V.ref x.2.1)
  | [], _, h => by cases h; rfl
  | p :: ps, _, h => by
    obtain ⟨b, u, v, r, rfl, h1, h2, h3, h4, h5, h6⟩ := h
    exact ⟨_, _, rfl, h3, rns_keys h6⟩
theorem call_listN (hp : cl.pw = some (X.prog, X.w)) (hc : X.calm = true) (σ0 : L2.St) : CallR X (.type "list") (rN X cl W σ0 fnListN) := by
  intro pins s σ H xs us Q I r ⟨ρ, S, ds, rel, rv, o⟩
  match ds, rv, o with
  | [], _, o => exact o.elim
  | d :: _ :: _, _, o => exact o.elim
  | [d], rv, o =>
    obtain ⟨v, rfl, rv1⟩ := rvs1 rv
    obtain ⟨u, rfl, rx⟩ := r.one
    unfold fnListN at o
    dsimp only at o
    cases h1 : dtnAt S d with
    | none => rw [h1] at o; exact o.elim
    | some p =>
      obtain ⟨lk, kvs⟩ := p
      rw [h1] at o
      dsimp only at o
      obtain ⟨a, n, xs, R⟩ := dtn_rd I hp rel rv1 h1
      have ev := R.v
      subst ev
      cases (show u = Value.ref a from rx)
      obtain ⟨ob, es, ep, ho, hx, hdt, he, his, hn⟩ := R.dd
      have l1 : es.size = xs.length := size_of_entries he
      have hsz : es.size ≤ sizeLine := by rw [l1]; exact R.le
      refine PySem.W.kdl_call (kdl_raw R.sys hx hdt) (I.ok.hd hc) ho hsz fun h' tk acc' c' kp e it => ?_
      have ea : acc'.toList = xs.map fun x => Value.ref x.2.1 := by
        have hl : acc'.toList.length = xs.length := by rw [Array.length_toList, it.1]; exact l1
        apply List.ext_getElem?
        intro j
        rw [List.getElem?_map]
        cases hj : acc'.toList[j]? with
        | none =>
          have h1 := List.getElem?_eq_none_iff.mp hj
          rw [List.getElem?_eq_none (by omega)]
          all_goals rfl
        | some v =>
          obtain ⟨en, hen, hv⟩ := it.2 j v (by rw [← Array.getElem?_toList]; exact hj)
          have qe := entry_at he j
          rw [hen] at qe
          cases hb : xs[j]? with
          | none =>
            rw [hb] at qe
            exact nomatch (show some en = none from qe)
          | some b =>
            rw [hb] at qe
            have e2 : en = entryOfKey (nestedKind X.prog X.w) b := Option.some.inj qe
            rw [hv, e2]
            all_goals rfl
      have rv2 : Vals (xs.map fun x => V.ref x.2.1) acc'.toList := by
        rw [ea]
        clear ea his hn he R l1 hsz o it
        induction xs with
        | nil => exact .nil
        | cons x xs ih => exact .cons rfl ih
      have hz : (xs.map fun x => V.ref x.2.1).length ≤ sizeLine := by rw [List.length_map]; exact R.le
      obtain ⟨_, q⟩ := out_lst rel (rns_keys R.rn) o
      exact ⟨.ref s.heap.objs.size, _, I.laid (t' := tk) (o := .lst (xs.map fun x => V.ref x.2.1)) kp (Nat.le_refl _) ⟨hz, acc'.toList, c', rv2, by rw [Array.toArray_toList]; exact e⟩, rfl, q _ (I.hok.fresh (Nat.le_refl _))⟩
theorem n_rN {f : DN} (σ0 : L2.St) (hw : ∀ ρ σ H r Q, Out (gx X cl) (RV (gx X cl)) W ρ σ H r Q → Out (gx X cl) (RV (gx X cl)) W ρ σ0 H r Q) : Fn (gx X cl) W f (rN X cl W σ0 f) := fun ρ σ H S ds vs Q rel rv o => ⟨ρ, S, ds, rel, rv, hw _ _ _ _ _ o⟩
/-- the same where nothing may be raised -/
def okR (r : R D) : R D := match r with
  | .ok d S => .ok d S
  | _ => .bad
def okF (f : DN) : DN := fun ds S => okR (f ds S)
theorem n_okF {f : DN} (σ0 : L2.St) : Fn (gx X cl) W (okF f) (rN X cl W σ0 (okF f)) := fun ρ σ H S ds vs Q rel rv o => ⟨ρ, S, ds, rel, rv, by
  unfold okF at o ⊢
  generalize f ds S = r at o ⊢
  cases r with
  | ok d S => exact o
  | ex c fs S => exact o.elim
  | bad => exact o⟩
theorem okF_list : okF fnListN = fnListN := by
  funext ds S
  unfold okF fnListN
  match ds with
  | [] => rfl
  | _ :: _ :: _ => rfl
  | [d] =>
    dsimp only
    cases h : dtnAt S d with
    | none => rfl
    | some p =>
      obtain ⟨lk, kvs⟩ := p
      dsimp only
      unfold newLst
      split <;> rfl
theorem n_listN (σ0 : L2.St) : Fn (gx X cl) W fnListN (rN X cl W σ0 fnListN) := by
  have h := n_okF (X := X) (cl := cl) (W := W) (f := fnListN) σ0
  rw [okF_list] at h
  exact h
/-- len(d) -/
def fnLenN : DN := fun ds S => match ds with
  | [d] => match dtnAt S d with
    | some (_, kvs) => .ok (.int kvs.length) S
    | none => .bad
  | _ => .bad
theorem n_lenN (σ0 : L2.St) : Fn (gx X cl) W fnLenN (rN X cl W σ0 fnLenN) := fun ρ σ H S ds vs Q rel rv o => ⟨ρ, S, ds, rel, rv, by
  unfold fnLenN at o ⊢
  match ds, rv, o with
  | [], _, o => exact o.elim
  | _ :: _ :: _, _, o => exact o.elim
  | [d], rv, o =>
    dsimp only at o ⊢
    cases h : dtnAt S d with
    | none => rw [h] at o; exact o.elim
    | some p => rw [h] at o; exact o⟩
theorem call_lenN (hp : cl.pw = some (X.prog, X.w)) (σ0 : L2.St) : CallR X (.builtin "len") (rN X cl W σ0 fnLenN) := by
  intro pins s σ H xs us Q I r ⟨ρ, S, ds, rel, rv, o⟩
  match ds, rv, o with
  | [], _, o => exact o.elim
  | d :: _ :: _, _, o => exact o.elim
  | [d], rv, o =>
    obtain ⟨v, rfl, rv1⟩ := rvs1 rv
    obtain ⟨u, rfl, rx⟩ := r.one
    unfold fnLenN at o
    dsimp only at o
    cases h1 : dtnAt S d with
    | none => rw [h1] at o; exact o.elim
    | some p =>
      obtain ⟨lk, kvs⟩ := p
      rw [h1] at o
      dsimp only at o
      obtain ⟨a, n, xs, R⟩ := dtn_rd I hp rel rv1 h1
      have ev := R.v
      subst ev
      cases (show u = Value.ref a from rx)
      have hz : (pairsH xs).length ≤ sizeLine := by rw [pairsH_length]; exact R.le
      have hm : s.heap.DictKeyed (nestedKind X.prog X.w) a (pairsH xs) := ⟨xs, R.dd, rfl⟩
      have e : (kvs.length : Int) = ((pairsH xs).length : Int) := by rw [pairsH_length, R.rn.length]
      refine PyProof.Rows.call_len_slot (n := (pairsH xs).length) hm.typeIs F.slot_dict_len (fun Q' hq => len_keyed R.sys hm hq) (by omega) (by rw [sizeLine_eq] at hz; omega) ?_
      refine ⟨.int kvs.length, H, I.tok _, ⟨_, by rw [e]⟩, Out.ret o rel rfl⟩
end
end Mi
set_option Elab.async false
set_option autoImplicit false
set_option linter.all false
set_option maxRecDepth 100000
set_option maxHeartbeats 4000000
namespace Mi
open PySem L2
/-! ### keyword-only parameters -/
section
variable {P : Program} {w : World} {K : PySem.W.Frag} {mg : Str → Option Value} {base : Heap} {cl : Cl}
theorem fn_okK {x qual : Str} {st : Stmt} {kws : List (Str × V)} {f : Addr} {fd : FuncData} {N ps : List Str} {k : Nat} {B : Sl → Sto → RS} (F : FunD K x qual (defArgs st) (defBody st) (defScope st) [] kws f fd) (S : FnScope N ps (defScope st))
    (hb : ∀ (cdv : Value) (A : Around) (outer : List Env) (s : Shared) (H : Hp) (E : XK), Room k (A.deeper (PyProof.Rows.envOfC qual (defScope st) s.heap.objs.size f cdv)) →
      Takes (cxOf (L2.CX P w) P w K mg base N qual (defScope st) f cdv A outer s H E) (fun cls d _ H => E cls d H) →
      PSs (cxOf (L2.CX P w) P w K mg base N qual (defScope st) f cdv A outer s H E) (defBody st) (tS ⟨K, cl⟩ (fun cls d _ H => E cls d H) B)) :
    FnOk P w K mg base (L2.CX P w) (k + 1) f fd ps (spF ⟨K, cl⟩ (mFn ps.length N.length B)) :=
  F.ok S (fun vs H Q E h => spF_len h) fun cdv A outer s H vs Q E hr h => ⟨_, hb cdv A outer s H E hr (takes_of rfl rfl rfl rfl), body_of (qual := qual) (sc := defScope st) (f := f) (cdv := cdv) (A := A) (outer := outer) (s := s) h⟩
/-- called without the keyword -/
def mKwD (np : Nat) (d : D) (m : DN) : DN := fun ds S => if ds.length + 1 = np then m (ds ++ [d]) S else .bad
theorem fnr_kwd {k : Nat} {f : Addr} {fd : FuncData} {ps : List Str} {m : DN} {d : D} {v : V} (F : FnOk P w K mg base (L2.CX P w) k f fd ps (spF ⟨K, cl⟩ m)) (hd : ∃ ds, Vals [v] ds ∧ Binds K fd ps ds) (hv : ∀ ρ H, RV ⟨K, cl⟩ ρ H d v) :
    FnR P w K mg base (L2.CX P w) k f (spF ⟨K, cl⟩ (mKwD ps.length d m)) := by
  intro A outer s H us vs Q E hr e0 r ⟨ρ, ds, S, rel, rv, o⟩
  obtain ⟨dd, h1, h2⟩ := hd
  unfold mKwD at o
  by_cases hl2 : ds.length + 1 = ps.length
  · rw [if_pos hl2] at o
    exact (F.raw h2 h1) A outer s H us vs Q E hr e0 r ⟨ρ, ds ++ [d], S, rel, rv.append (show RVs ⟨K, cl⟩ ρ H [d] [v] from ⟨v, [], rfl, hv ρ H, rfl⟩), o⟩
  · rw [if_neg hl2] at o; exact o.elim
/-- called with it -/
def FnRK (P : Program) (w : World) (K : PySem.W.Frag) (mg : Str → Option Value) (base : Heap) (CX : CXT) (k : Nat) (f : Addr) (n : Nat) (ks : List Str) (sp : Sp) : Prop :=
  ∀ (A : Around) (outer : List Env) (s : Shared) (H : Hp) (us ws : List Value) (vs zs : List V) (Q : VK) (E : XK), Room k A → Env0 P w K mg base A outer s H → Vals vs us → Vals zs ws → vs.length = n → zs.length = ks.length → sp (vs ++ zs) H Q E →
    codeAny (model P w) A (.call (.ref f) ⟨us, ks.zip ws⟩) (CR CX outer P w H s Q E) s
theorem FnRK.mono {CX : CXT} {j k : Nat} {f : Addr} {n : Nat} {ks : List Str} {sp : Sp} (F : FnRK P w K mg base CX j f n ks sp) (h : j ≤ k) : FnRK P w K mg base CX k f n ks sp := fun A outer s H us ws vs zs Q E hr => F A outer s H us ws vs zs Q E (hr.mono h)
theorem fnrk_of {CX : CXT} {k n : Nat} {f : Addr} {fd : FuncData} {ps ks : List Str} {sp : Sp} (F : FnOk P w K mg base CX k f fd ps sp) (hb : KBn K fd ps n ks (fun us ws => us ++ ws) (fun vs zs => vs ++ zs)) : FnRK P w K mg base CX k f n ks sp :=
  fun A outer s H us ws vs zs Q E hr e0 r rz l1 l2 h => F.run A outer s H ⟨us, ks.zip ws⟩ (us ++ ws) (vs ++ zs) Q E hr e0 (hb.to s us ws (e0.mod.kin.keeps fun b o e => (e0.bs b o e).1) (r.length.symm.trans l1) (rz.length.symm.trans l2)) (hb.rel r rz) h
theorem kbn_of {x qual : Str} {params : Arguments} {body : List Stmt} {scope : Scope} {kws : List (Str × V)} {f : Addr} {fd : FuncData} {ps : List Str} (F : FunD K x qual params body scope [] kws f fd) (n : Nat) (ks : List Str) (hk : kws ≠ [])
    (h : ∀ (D : Addr) (doc pm : Value) (an : Option Addr) (cdv ct : Value) (us ws : List Value), us.length = n → ws.length = ks.length →
      bindArgs (PySem.W.fnOf x qual params body scope .none (.ref D) doc pm an cdv ct) ⟨us, ks.zip ws⟩ = pure (ps.zip (us ++ ws))) :
    KBn K fd ps n ks (fun us ws => us ++ ws) (fun vs zs => vs ++ zs) := by
  obtain ⟨mv, hb⟩ := FunD.kbinds0 (ps := ps) F n ks [] (fun {α} (vs mz zs : List α) => vs ++ zs) hk (fun q hq => by cases hq) (fun r1 _ r3 => r1.append r3) (fun D doc pm an cdv ct us mv ws l1 l2 l3 => by
    have e : mv = [] := List.length_eq_zero_iff.mp l2
    subst e
    exact h D doc pm an cdv ct us ws l1 l3)
  exact hb
end
section
variable {X : Cx} {cl : Cl} {W : WX} {e o : Expr} {es : List Expr} {F : Sl → Sto → R D} {A Ak As : Sl → Sto → R (List D)} {p pos apos kpos : Pos} {nm : Option Str} {x m : Str} {c : Nat}
theorem PK.imp {X : Cx} {e : List Keyword} {t t' : TA} (h : PK X e t) (i : ∀ σ H Q, t' σ H Q → t σ H Q) : PK X e t' := ⟨fun p pins s σ H Q I q => h.run p pins s σ H Q I (i σ H Q q)⟩
theorem k_one (he : PE X e (tF (gx X cl) W F)) : PK X [⟨nm, e, kpos⟩] (tA (gx X cl) W (ACons F ANil)) := by
  refine PK.imp (pk_cons he pk_nil) fun σ H Q ⟨ρ, σd, S, rel, o⟩ => ?_
  refine tG_to rel o fun d S1 v H1 ρ1 e1 rel1 t1 o1 => ?_
  exact Out.ret o1 rel1.hp ⟨v, [], rfl, t1, rfl⟩
def FKw (n k : Nat) (m : DN) (A Ak : Sl → Sto → R (List D)) : Sl → Sto → R D := fun σ S => (A σ S).to fun ds S1 => (Ak σ S1).to fun ks S2 => if ds.length = n ∧ ks.length = k then m (ds ++ ks) S2 else .bad
theorem run_RK {pins : List (Addr × Obj)} {σ : L2.St} {H : Hp} {s : Shared} {k n : Nat} {f : Addr} {ks : List Str} {sp : Sp} {Q : VK} {us ws : List Value} {vs zs : List V} (F : FnRK X.prog X.w X.K X.mg X.base (L2.CX X.prog X.w) k f n ks sp) (hr : Room k X.A) (tk : Takes X W) (I : Inv X pins σ H s) (r : Vals vs us) (rz : Vals zs ws) (l1 : vs.length = n) (l2 : zs.length = ks.length) (h : sp (vs ++ zs) H Q (WE W σ)) :
    wpAny (model X.prog X.w) X.A (call (.ref f) us (ks.zip ws)) (EP X pins σ Q) X.xe s := by
  refine wpAny_call (codeAny_mono (F X.A X.stack s H us ws vs zs Q (WE W σ) hr I.env0 r rz l1 l2 h) fun r s' hq => ?_)
  cases r with
  | error e => exact passAt tk σ pins H s e s' I hq
  | ok fl =>
    cases fl with
    | ret u => exact I.after hq
    | next => exact False.elim hq
    | brk => exact False.elim hq
    | cont => exact False.elim hq
theorem f_callK {k n : Nat} {f : Addr} {ks : List Str} {mm : DN} {kws : List Keyword} (F : FnRK X.prog X.w X.K X.mg X.base (L2.CX X.prog X.w) k f n ks (spF (gx X cl) mm)) (hr : Room k X.A) (tk : Takes X W) (hm : X.mg x = some (.ref f)) (hk : PySem.W.keepIn X.K (.ref f) = true)
    (ha : PA X (e :: es) (tA (gx X cl) W A)) (hkw : PK X kws (tA (gx X cl) W Ak)) (hg : Gl X x := by rfl) (hall : (backToKw pos (keywordEach kws X.env)).all (·.1.isSome) = true := by rfl) (hks : (backToKw pos (keywordEach kws X.env)).filterMap (·.1) = ks := by rfl) (hdb : (x == ("__debug__" : Str)) = false := by decide) (he : starEach (e :: es) X.env = (false, eval e X.env) :: starEach es X.env := by rfl)
    (hpl : ((backTo pos (starEach (e :: es) X.env)).any (·.1) || (backToKw pos (keywordEach kws X.env)).any (·.1.isNone)) = false := by rfl) :
    PE X (.Call (.Name x p) (e :: es) kws pos) (tF (gx X cl) W (FKw n ks.length mm A Ak)) := by
  refine ⟨fun pins s σ H Q I ⟨ρ, σd, S, rel, oo⟩ => ?_⟩
  refine wpAny_Call_Name_kw (ld_glob I hg hm ?_ hdb)
  refine PySem.W.callWith_KW (h₀ := X.base) I.ok.mod.kin hk hall (thn (ha.run pos pins s σ H (fun vs H1 => ∃ ρ1 S1 ds, Rel (gx X cl) ρ1 σ σd H1 S1 ∧ RVs (gx X cl) ρ1 H1 ds vs ∧ Out (gx X cl) (RV (gx X cl)) W ρ1 σ H1 ((Ak σd S1).to fun kk S2 => if ds.length = n ∧ kk.length = ks.length then mm (ds ++ kk) S2 else .bad) Q) I (tG_to rel oo fun ds S1 vs H1 ρ1 e1 rel1 t1 o1 => ⟨ρ1, S1, ds, rel1, t1, o1⟩)) fun us s1 ⟨vs, H1, I1, r, ρ1, S1, ds, rel1, t1, o1⟩ => ?_) hpl he
  refine thn (hkw.run pos pins s1 σ H1 (fun zs H2 => vs.length = n ∧ zs.length = ks.length ∧ spF (gx X cl) mm (vs ++ zs) H2 Q (WE W σ)) I1 (tG_to rel1 o1 fun kk S2 zs H2 ρ2 e2 rel2 t2 o2 => ?_)) fun ws s2 ⟨zs, H2, I2, rz, l1, l2, q2⟩ => ⟨I2.kIn, ?_⟩
  · by_cases hl : ds.length = n ∧ kk.length = ks.length
    · rw [if_pos hl] at o2
      exact ⟨t1.length.symm.trans hl.1, t2.length.symm.trans hl.2, ρ2, ds ++ kk, S2, rel2.hp, (t1.ext e2).append t2, out_we o2⟩
    · rw [if_neg hl] at o2; exact o2.elim
  · rw [hks]
    exact run_RK F hr tk I2 r rz l1 l2 q2
def FMethK (c n k : Nat) (m : DN) (A : Sl → Sto → R D) (As Ak : Sl → Sto → R (List D)) : Sl → Sto → R D := fun σ S => (A σ S).to fun a S1 => match insAt S1 c a with
  | some _ => (As σ S1).to fun ds S2 => (Ak σ S2).to fun ks S3 => if ds.length + 1 = n ∧ ks.length = k then m (a :: ds ++ ks) S3 else .bad
  | none => .bad
theorem f_methK {k n : Nat} {g : Addr} {ks : List Str} {mm : DN} {pl : Sem Bool} {A : Sl → Sto → R D} {kws : List Keyword} (C : ClsF X.K cl c) (F : FnRK X.prog X.w X.K X.mg X.base (L2.CX X.prog X.w) k g n ks (spF (gx X cl) mm)) (hr : Room k X.A) (tk : Takes X W) (hm : Meth X.K (cl.cl c) m g) (hnf : m ∉ cl.fn c)
    (ho : PE X o (tF (gx X cl) W A)) (ha : PA X (e :: es) (tA (gx X cl) W As)) (hkw : PK X kws (tA (gx X cl) W Ak)) (hall : (backToKw pos (keywordEach kws X.env)).all (·.1.isSome) = true := by rfl) (hks : (backToKw pos (keywordEach kws X.env)).filterMap (·.1) = ks := by rfl)
    (hst : starEach (e :: es) X.env = (false, eval e X.env) :: starEach es X.env := by rfl) (hpl : ((backTo pos (starEach (e :: es) X.env)).any (·.1) || (backToKw pos (keywordEach kws X.env)).any (·.1.isNone)) = false := by rfl)
    (ht : eval (.Call (.Attribute o m apos) (e :: es) kws pos) X.env = (do
      let ov ← eval o X.env
      standAt apos.atName
      let (f, first) ← holding [ov] (getMethod ov m pl)
      callWith pos f first (backTo pos (starEach (e :: es) X.env)) (backToKw pos (keywordEach kws X.env))) := by rfl) :
    PE X (.Call (.Attribute o m apos) (e :: es) kws pos) (tF (gx X cl) W (FMethK c n ks.length mm A As Ak)) := by
  refine ⟨fun pins s σ H Q I ⟨ρ, σd, S, rel, o⟩ => ?_⟩
  refine PySem.W.methodCall_KW (pl := pl) (thn (ho.run pins s σ H (fun x H1 => ∃ a dx fs ρ1 S1 d, x = .ref a ∧ H1 a = some (.ins (cl.cl c) dx fs) ∧ fs.lookup m = none ∧ Rel (gx X cl) ρ1 σ σd H1 S1 ∧ RV (gx X cl) ρ1 H1 d x ∧ Out (gx X cl) (RV (gx X cl)) W ρ1 σ H1 ((As σd S1).to fun ds S2 => (Ak σd S2).to fun kk S3 => if ds.length + 1 = n ∧ kk.length = ks.length then mm (d :: ds ++ kk) S3 else .bad) Q) I (tG_to rel o fun a S1 v H1 ρ1 e1 rel1 t1 o1 => ?_)) fun u s1 ⟨x, H1, I1, rx, a, dx, fs, ρ1, S1, d, ex, ea, l, rel1, rd, o1⟩ => ?_) ht
  · cases h : insAt S1 c a with
    | none => rw [h] at o1; exact o1.elim
    | some ds =>
      rw [h] at o1
      obtain ⟨b, n, dx, vs, rfl, _, _, rfl, h1, h2, _⟩ := ins_of rel1.hp t1 h
      exact ⟨b, dx, _, ρ1, S1, _, rfl, h1, zip_none hnf, rel1, t1, o1⟩
  · subst ex
    obtain rfl : u = Value.ref a := rx
    refine getmeth_ok I1 ea C.k.cl hm l ?_
    refine PySem.W.callWith_KW (first := [.ref a]) (h₀ := X.base) I1.ok.mod.kin hm.kp hall (thn (ha.run pos pins s1 σ H1 (fun vs H2 => ∃ ρ2 S2 ds, Rel (gx X cl) ρ2 σ σd H2 S2 ∧ RV (gx X cl) ρ2 H2 d (.ref a) ∧ RVs (gx X cl) ρ2 H2 ds vs ∧ Out (gx X cl) (RV (gx X cl)) W ρ2 σ H2 ((Ak σd S2).to fun kk S3 => if ds.length + 1 = n ∧ kk.length = ks.length then mm (d :: ds ++ kk) S3 else .bad) Q) I1 (tG_to rel1 o1 fun ds S2 vs H2 ρ2 e2 rel2 t2 o2 => ⟨ρ2, S2, ds, rel2, rd.ext e2, t2, o2⟩)) fun us s2 ⟨vs, H2, I2, r, ρ2, S2, ds, rel2, rd2, t2, o2⟩ => ?_) hpl hst
    refine thn (hkw.run pos pins s2 σ H2 (fun zs H3 => vs.length + 1 = n ∧ zs.length = ks.length ∧ spF (gx X cl) mm (.ref a :: vs ++ zs) H3 Q (WE W σ)) I2 (tG_to rel2 o2 fun kk S3 zs H3 ρ3 e3 rel3 t3 o3 => ?_)) fun ws s3 ⟨zs, H3, I3, rz, l1, l2, q3⟩ => ⟨I3.kIn, ?_⟩
    · by_cases hl : ds.length + 1 = n ∧ kk.length = ks.length
      · rw [if_pos hl] at o3
        exact ⟨by rw [← t2.length]; exact hl.1, t3.length.symm.trans hl.2, ρ3, d :: ds ++ kk, S3, rel3.hp, RVs.append (show RVs (gx X cl) ρ3 H3 (d :: ds) (.ref a :: vs) from ⟨_, _, rfl, rd2.ext e3, t2.ext e3⟩) t3, out_we o3⟩
      · rw [if_neg hl] at o3; exact o3.elim
    · rw [hks]
      exact run_RK (us := .ref a :: us) (vs := .ref a :: vs) F hr tk I3 (.cons rfl r) rz (by rw [List.length_cons]; exact l1) l2 q3
end
/-! ### while, x += i -/
section
variable {X : Cx} {cl : Cl} {W : WX} {pos pos' : Pos}
def whileS (C : Sl → Sto → R Bool) (B : Sl → Sto → RS) : Nat → Sl → Sto → RS
  | 0, _, _ => .bad
  | n + 1, σ, S => match C σ S with
    | .ok false S1 => .ok .nx σ S1
    | .ok true S1 => match B σ S1 with
      | .ok .nx σ2 S2 => whileS C B n σ2 S2
      | .ok .ct σ2 S2 => whileS C B n σ2 S2
      | .ok .bk σ2 S2 => .ok .nx σ2 S2
      | .ok (.rt d) σ2 S2 => .ok (.rt d) σ2 S2
      | .ex c fs σ2 S2 => .ex c fs σ2 S2
      | .bad => .bad
    | .ex c fs S1 => .ex c fs σ S1
    | .bad => .bad
def SWhile (fuel : Nat) (C : Sl → Sto → R Bool) (B : Sl → Sto → RS) : Sl → Sto → RS := fun σ S => whileS C B fuel σ S
theorem s_while {fuel : Nat} {c : Expr} {body : List Stmt} {C : Sl → Sto → R Bool} {B : Sl → Sto → RS} (hp : PassesOwn (model X.prog X.w) X.A X.env X.xe) (hc : PT X c (tT (gx X cl) W C)) (hb : PSs X body (tS (gx X cl) W B)) : PS X (.While c body [] pos) (tS (gx X cl) W (SWhile fuel C B)) := by
  refine PS.imp (ps_while hp hc hb) fun D σ H ⟨ρ, σd, S, rel, o⟩ => ?_
  refine ⟨fun m σ H => ∃ ρ σd S, Rel (gx X cl) ρ σ σd H S ∧ OutS (gx X cl) W ρ H (whileS C B m σd S) D, ⟨fuel, ρ, σd, S, rel, o⟩, ?_⟩
  rintro m σ1 H1 ⟨ρ1, σd1, S1, rel1, o1⟩
  cases m with
  | zero => exact o1.elim
  | succ m =>
    unfold whileS at o1
    refine ⟨ρ1, σd1, S1, rel1, ?_⟩
    cases hC : C σd1 S1 with
    | bad => rw [hC] at o1; exact o1
    | ex c fs S2 =>
      rw [hC] at o1
      exact fun H' ρ' cls dd e r x => o1 σ1 H' ρ' cls dd e (rel1.step e r) x
    | ok b S2 =>
      rw [hC] at o1
      intro b' H2 ρ2 e2 r2 eb
      subst eb
      have rel2 := rel1.step e2 r2
      have o2 := OutS.mono e2 o1
      cases b with
      | false =>
        rw [if_neg Bool.false_ne_true]
        exact OutS.now o2 rel2
      | true =>
        rw [if_pos rfl]
        dsimp only at o2
        refine ⟨fun σ' H' => ∃ ρ σd S, Rel (gx X cl) ρ σ' σd H' S ∧ OutS (gx X cl) W ρ H' (whileS C B m σd S) D, fun σ' H' h => ⟨m, Nat.lt_succ_self m, h⟩, ρ2, σd1, S2, rel2, ?_⟩
        cases hB : B σd1 S2 with
        | bad => rw [hB] at o2; exact o2
        | ex c fs σ3 S3 => rw [hB] at o2; exact o2
        | ok f σ3 S3 =>
          rw [hB] at o2
          cases f with
          | nx => exact fun σ' H' ρ' e r => ⟨ρ', σ3, S3, r, OutS.mono e o2⟩
          | ct => exact fun σ' H' ρ' e r => ⟨ρ', σ3, S3, r, OutS.mono e o2⟩
          | bk => exact o2
          | rt d => exact o2
def SAug (i : Nat) (g : Int → Int → Int) (F : Sl → Sto → R D) : Sl → Sto → RS := fun σ S => match σ[i]? with
  | some (some (.int a)) => toS σ (F σ S) fun b S1 => match b with
    | .int b => .ok .nx (σ.set i (some (.int (g a b)))) S1
    | _ => .bad
  | _ => .bad
theorem s_aug {op : Operator} {g : Int → Int → Int} {i : Nat} {x : Str} {e : Expr} {F : Sl → Sto → R D} (hop : PIp X op (ipI g)) (hN : X.N.Nodup) (he : PE X e (tF (gx X cl) W F)) (hi : X.N[i]? = some x := by rfl) (hx : Loc X.env.scope x := by first | exact Or.inl rfl | exact Or.inr rfl)
    (hf : X.fn x = true ∨ X.env.scope.names.lookup x = some .local := by first | exact .inl rfl | exact .inr rfl) : PS X (.AugAssign (.Name x pos') op e pos) (tS (gx X cl) W (SAug i g F)) :=
  PS.imp (ps_aug hN hi hx he hop hf) fun D σ H ⟨ρ, σd, S, rel, o⟩ => by
    unfold SAug at o
    cases e0 : σd[i]? with
    | none => rw [e0] at o; exact o.elim
    | some od =>
      cases od with
      | none => rw [e0] at o; exact o.elim
      | some d =>
        rw [e0] at o
        cases d <;> first | exact o.elim | skip
        rename_i a
        dsimp only at o
        obtain ⟨v, ev, rv⟩ := rel.sl i _ e0
        have rv := rv.rv (by intro _ _ z; cases z)
        cases rv
        refine ⟨_, ev, tG_toS rel o fun b S1 y H1 ρ1 e1 rel1 t1 o1 => ?_⟩
        cases b <;> first | exact o1.elim | skip
        cases t1
        exact ⟨_, _, rfl, rfl, OutS.now o1 (rel1.set (d := .int (g a _)) rfl i)⟩
end
end Mi
set_option Elab.async false
set_option autoImplicit false
set_option linter.all false
set_option maxRecDepth 100000
set_option maxHeartbeats 4000000
namespace Mi
open PySem PySem.Spec PyProof.Rows L2
/-! ### a dict comprehension, the store by any rule -/
/-- what is asked of a store to the new dict -/
abbrev StG := Addr → V → V → Hp → (Hp → Prop) → Prop
def tDg (sg : StG) (wi : TI) (g : TG) (tt : TT) (tk tv : TE) (vs : List Nat) : TE := fun σ H Q => wi σ H fun J H1 => ∀ M, H1 M = none → ∃ W : Nat → Nat → Hp → Prop, (∃ m, W 0 m (upd H1 M (.dK []))) ∧ ∀ i m H, W i m H →
  (J.stop i H ∧ Q (.ref M) H) ∨ (J.go i H ∧ ∃ Nx : Hp → Prop, (∀ H', Nx H' → ∃ m', m' < m ∧ W (i + 1) m' H') ∧ ∀ x H', J.yld i H x H' → g x (L2.wipe σ vs) H' fun σ2 H2 => L2.wipe σ2 vs = L2.wipe σ vs ∧ tt σ2 H2 fun b H3 =>
    if b = true then tk σ2 H3 fun y H4 => tv σ2 H4 fun z H5 => sg M y z H5 Nx else Nx H3)
section
variable {X : Cx}
/-- the rule keeps its word in the comprehension's block -/
def StOk (X : Cx) (sg : StG) : Prop := ∀ (Y : Cx), Y.prog = X.prog → Y.w = X.w → Y.K = X.K → Y.A = X.A → ∀ (pins : List (Addr × Obj)) (σ : L2.St) (H : Hp) (s : Shared) (E : Value → Shared → Prop) (M : Addr) (y z : V) (u r : Value) (Nx : Hp → Prop), Inv Y pins σ H s → L2.RelV y u → L2.RelV z r → sg M y z H Nx →
  wpAny (model Y.prog Y.w) Y.A (dictSet M u r) (fun _ s' => ∃ H', Inv Y pins σ H' s' ∧ Nx H') E s
theorem dg_run {sg : StG} {pins : List (Addr × Obj)} {s : Shared} {σ : L2.St} {H : Hp} {Q : VK} {kx vx tg iter : Expr} {ifs : List Expr} {scope : Scope} {own : List (Str × Nat)} {pos pos' : Pos} {wi : TI} {g : TG} {tt : TT} {tk tv : TE} {use : Option (Value → Sem Unit)} {Qf : Value → Shared → Prop}
    (hst : StOk X sg) (calm : X.calm = true) (nd : X.N.Nodup) (inv : Inv X pins σ H s) (src : PI X tg iter wi) (blk : BlkOk X.N X.env.scope scope own)
    (hg : ∀ (s : Shared) (H : Hp) (C : Addr) (cl : List (Str × Addr)) (fp : List Addr), PG (X.blk s H scope (compEnvC scope cl C X.env) fp) tg g) (ht : ∀ (s : Shared) (H : Hp) (C : Addr) (cl : List (Str × Addr)) (fp : List Addr), PTs (X.blk s H scope (compEnvC scope cl C X.env) fp) ifs tt)
    (hk : ∀ (s : Shared) (H : Hp) (C : Addr) (cl : List (Str × Addr)) (fp : List Addr), PE (X.blk s H scope (compEnvC scope cl C X.env) fp) kx tk)
    (hv : ∀ (s : Shared) (H : Hp) (C : Addr) (cl : List (Str × Addr)) (fp : List Addr), PE (X.blk s H scope (compEnvC scope cl C X.env) fp) vx tv) (hs : ∀ x, foldedSetIterable iter X.env x = pure x)
    (hq : tDg sg wi g tt tk tv (own.map (·.2)) σ H Q)
    (done : ∀ M C s' m H', Inv X pins σ H' s' → Q (.ref M) H' → s'.heap.Ns C m → FpOk X pins H' C → compPost (model X.prog X.w) X.A X.xe use Qf (.ref M) C (.ok .next) s') :
    wpAny (model X.prog X.w) X.A (comprehension (.DictComp kx vx [⟨tg, iter, ifs, 0⟩] scope pos) scope X.env pos' newDict false (eval iter X.env) use) Qf X.xe s := by
  have free : ∀ y ∈ scope.names, y.2 = .free → ∃ c, X.env.cells.lookup y.1 = some c := fun y hy e => by
    rcases blk.free y hy e with z | z
    · exact inv.ok.has _ (.inl z)
    · exact inv.ok.has _ (.inr z)
  refine wpAny_comprehension_free (use := use) rfl hs (closure_ok free) blk.kind (fun y hy e => by rw [blk.uniq y hy, e]) (thn (src.run pins s σ H _ inv hq) fun xv sa ha => thn ha fun itv sb hb => ?_)
  obtain ⟨it, fp, tn, J, Hb, rfl, invB, T, tb, fb, q⟩ := hb
  refine wpAny_newObj_type (newEnv_comp ?_)
  -- the new dict M, the state behind it sc
  generalize eM : sb.heap.objs.size = M
  have Mn : Hb M = none := invB.hok.fresh (Nat.le_of_eq eM)
  obtain ⟨W, ⟨m0, w0⟩, turn⟩ := q M Mn
  generalize esc : ({ sb with heap := sb.heap.push { cls := .type "dict", data := .dict #[] } } : Shared) = sc
  have hsc : sc.heap = sb.heap.push { cls := .type "dict", data := .dict #[] } := by rw [← esc]
  have invC : Inv X pins σ (upd Hb M (.dK [])) sc := by
    rw [← esc]
    refine invB.laid (t' := sb.toks) (fun b o e => Heap.get?_push_of_some _ e) (Nat.le_of_eq eM) ?_
    rw [← eM]
    exact dk_empty sb.heap invB.big
  have old : ∀ b ∈ fp, b < sb.heap.objs.size := fun b hb => let ⟨o, e, _⟩ := T.obj _ _ tb b hb; Heap.lt_size e
  have fc : ∀ b ∈ fp, FpOk X pins (upd Hb M (.dK [])) b ∧ b < sc.heap.objs.size := fun b hb => by
    have lt := old b hb
    refine ⟨⟨?_, (fb b hb).2⟩, by rw [hsc, Heap.size_push]; exact Nat.lt_succ_of_lt lt⟩
    rw [upd_ne (by rw [← eM]; exact Nat.ne_of_lt lt)]
    exact (fb b hb).1
  have tc : tn 0 sc.heap := T.keep _ _ _ tb fun b _ o e => by rw [hsc]; exact Heap.get?_push_of_some _ e
  have invD := block_start invC blk nd fc
  -- the block's parts, each in its context
  let cells := cellsFrom (sc.heap.objs.size + 1) scope.names (cloFrom X.env.cells scope.names [])
  have jg := hg sc (upd Hb M (.dK [])) sc.heap.objs.size cells fp
  have jt := ht sc (upd Hb M (.dK [])) sc.heap.objs.size cells fp
  have jk := hk sc (upd Hb M (.dK [])) sc.heap.objs.size cells fp
  have jv := hv sc (upd Hb M (.dK [])) sc.heap.objs.size cells fp
  show codeAny _ _ (.compStart (.DictComp kx vx [⟨tg, iter, ifs, 0⟩] scope pos) 0 (.ref it) (.ref M) (compEnvC scope cells sc.heap.objs.size X.env)) (compPost (model X.prog X.w) X.A X.xe use Qf (.ref M) sc.heap.objs.size) { sc with heap := pushCells (sc.heap.push { cls := .type "dict", data := .dict #[] }) scope.names }
  have nf : ∀ b ∈ fp, (upd Hb M (.dK [])) b = none := fun b hb => (fc b hb).1.1
  have invD' : Inv (X.blk sc (upd Hb M (.dK [])) scope (compEnvC scope cells sc.heap.objs.size X.env) fp) [] (L2.wipe σ (own.map (·.2))) (upd Hb M (.dK [])) { sc with heap := pushCells (sc.heap.push { cls := .type "dict", data := .dict #[] }) scope.names } := invD
  clear invD
  generalize hce : compEnvC scope cells sc.heap.objs.size X.env = ce at invD' jg jt jk jv ⊢
  have lce : ce.locals = sc.heap.objs.size := by rw [← hce] <;> rfl
  generalize eHc : upd Hb M (.dK []) = Hc at invC invD' jg jt jk jv w0 nf fc
  generalize esd : ({ sc with heap := pushCells (sc.heap.push { cls := .type "dict", data := .dict #[] }) scope.names } : Shared) = sd at invD' ⊢
  have td : tn 0 sd.heap := T.keep _ _ _ tc fun b _ o e => by rw [← esd]; exact pushCells_keeps _ _ _ _ (Heap.get?_push_of_some _ e)
  have fpk : ∀ {σ' : L2.St} {H' : Hp} {s' : Shared}, Inv (X.blk sc Hc scope ce fp) [] σ' H' s' → (∀ b ∈ fp, H' b = none) → ∀ b ∈ fp, FpOk (X.blk sc Hc scope ce fp) [] H' b := fun {σ' H' s'} I' hn b hb =>
    ⟨hn b hb, (I'.ok.exf b hb).1, I'.ok.exfs b hb, .inl hb, fun x c e => (I'.ok.exf b hb).2 x c e, fun p hp => absurd (show p ∈ ([] : List (Addr × Obj)) ++ [] from hp) (by simp)⟩
  have loop : codeAny (model X.prog X.w) X.A (.compLoop (.DictComp kx vx [⟨tg, iter, ifs, 0⟩] scope pos) 0 (.ref it) (.ref M) ce) (compPost (model X.prog X.w) X.A X.xe use Qf (.ref M) sc.heap.objs.size) sd := by
    refine compLoop_anyD (fun n s' => ∃ i H', Inv (X.blk sc Hc scope ce fp) [] (L2.wipe σ (own.map (·.2))) H' s' ∧ tn i s'.heap ∧ (∀ b ∈ fp, H' b = none) ∧ W i n H') ?_ m0 ⟨0, Hc, invD', td, nf, w0⟩
    rintro n se ⟨i, He, invE, te, ne, we⟩
    rcases turn i n He we with ⟨stop, fin⟩ | ⟨go, Nx, hNx, step⟩
    · refine thnF (T.done (X.blk sc Hc scope ce fp) rfl rfl rfl calm i [] se _ He (fun _ _ => False) invE (fpk invE ne) te stop) fun r sf ⟨er, invF⟩ => ?_
      subst er
      have back : Inv X pins σ He sf := invC.call' (ch := fp) invF.os invF.base invF.hok invF.bare fun b hb => ⟨(fc b hb).1.2.2.2.1, (fc b hb).1.2.1, (fc b hb).1.2.2.2.2.1, (fc b hb).1.2.2.2.2.2⟩
      have nC : He sc.heap.objs.size = none := by
        have z : He ce.locals = none := invF.free
        rw [lce] at z
        exact z
      obtain ⟨mm, ns, _⟩ := invF.loc
      have ns' : sf.heap.Ns ce.locals mm := ns
      rw [lce] at ns'
      exact done M sc.heap.objs.size sf mm He back fin ns' (invC.fpOk (Nat.le_refl _) nC)
    · refine thnF (T.item (X.blk sc Hc scope ce fp) rfl rfl rfl calm i [] se _ He (fun _ _ => False) invE (fpk invE ne) te go) fun r sf ⟨u, er, hf⟩ => ?_
      subst er
      refine thnF hf fun _ sg' ⟨x, Hg, invG, rg, yg, tg', ng⟩ => ?_
      have pinned := invG.pinned (fpk invG ng) (T.obj _ _ tg')
      refine thnF (jg.run _ sg' _ Hg x u _ pinned rg (step x Hg yg)) fun _ sh ⟨σh, Hh, invH, hw, qh⟩ => ?_
      refine thnF (jt.run _ sh σh Hh _ invH qh) fun b si ⟨Hi, invI, qi⟩ => ?_
      have next : ∀ {s' : Shared} {H' : Hp}, Inv (X.blk sc Hc scope ce fp) ([] ++ pinsAt fp sg'.heap) σh H' s' → Nx H' → ∃ m, m < n ∧ ∃ i H', Inv (X.blk sc Hc scope ce fp) [] (L2.wipe σ (own.map (·.2))) H' s' ∧ tn i s'.heap ∧ (∀ b ∈ fp, H' b = none) ∧ W i m H' := fun {s' H'} I' nx => by
        obtain ⟨m', lt, w'⟩ := hNx H' nx
        have stay : ∀ b ∈ fp, ∀ o, sg'.heap.get? b = some o → s'.heap.get? b = some o ∧ H' b = none := fun b hb o e =>
          let z := I'.pin (b, o) (List.mem_append_right _ (List.mem_append_right _ (mem_pinsAt hb e))); ⟨z.1, z.2.1⟩
        have len : (L2.wipe σ (own.map (·.2))).length = σh.length := by rw [← hw, wipe_length]
        refine ⟨m', lt, i + 1, H', (I'.unpinned (pins := [])).weak len (fun j v e => ?_), T.keep _ _ _ tg' fun b hb o e => (stay b hb o e).1, fun b hb => ?_, w'⟩
        · rw [← hw] at e
          exact (wipe_some e).1
        · obtain ⟨o, e, _⟩ := T.obj _ _ tg' b hb
          exact (stay b hb o e).2
      cases b with
      | false =>
        rw [if_neg Bool.false_ne_true] at qi ⊢
        exact next invI qi
      | true =>
        rw [if_pos rfl] at qi ⊢
        refine thnF (jk.run _ si σh Hi _ invI qi) fun kv sj ⟨yk, Hj, invJ, rj, qj⟩ => ?_
        refine thnF (jv.run _ sj σh Hj _ invJ qj) fun vv sk ⟨yv, Hk, invK, rk, qk⟩ => ?_
        exact thnF (hst (X.blk sc Hc scope ce fp) rfl rfl rfl rfl _ _ _ _ (fun _ _ => False) M yk yv kv vv Nx invK rj rk qk) fun _ sl ⟨Hl, invL, nx⟩ => next invL nx
  exact codeAny_compStart_dict loop (T.self X.A 0 _ _ _ td loop)
theorem p_dg {sg : StG} {kx vx tg iter : Expr} {ifs : List Expr} {scope : Scope} {own : List (Str × Nat)} {pos : Pos} {wi : TI} {g : TG} {tt : TT} {tk tv : TE} (hst : StOk X sg) (calm : X.calm = true) (nd : X.N.Nodup) (src : PI X tg iter wi) (blk : BlkOk X.N X.env.scope scope own)
    (hg : ∀ (s : Shared) (H : Hp) (C : Addr) (cl : List (Str × Addr)) (fp : List Addr), PG (X.blk s H scope (compEnvC scope cl C X.env) fp) tg g) (ht : ∀ (s : Shared) (H : Hp) (C : Addr) (cl : List (Str × Addr)) (fp : List Addr), PTs (X.blk s H scope (compEnvC scope cl C X.env) fp) ifs tt)
    (hk : ∀ (s : Shared) (H : Hp) (C : Addr) (cl : List (Str × Addr)) (fp : List Addr), PE (X.blk s H scope (compEnvC scope cl C X.env) fp) kx tk)
    (hv : ∀ (s : Shared) (H : Hp) (C : Addr) (cl : List (Str × Addr)) (fp : List Addr), PE (X.blk s H scope (compEnvC scope cl C X.env) fp) vx tv) (hs : ∀ x, foldedSetIterable iter X.env x = pure x := by intro _; rfl) :
    PE X (.DictComp kx vx [⟨tg, iter, ifs, 0⟩] scope pos) (tDg sg wi g tt tk tv (own.map (·.2))) := by
  refine ⟨fun pins s σ H Q inv hq => ?_⟩
  rw [arm_eval_DictComp]
  refine dg_run hst calm nd inv src blk hg ht hk hv hs hq fun M C s' m H' back q ns fp => ⟨m, ns, fun h'' sb => ?_⟩
  exact ⟨.ref M, H', back.turned (t' := s'.toks) (fun b o hb e => (sb.2 b hb).trans e) fp.1 fp.2.1 fp.2.2.2.1 fp.2.2.2.2.1 fp.2.2.2.2.2, rfl, q⟩
end
end Mi
namespace Mi
open PySem L2
/-! ### {k: v for ..}, the keys tuples -/
def nputD (n : Nat) (dk dv : D) (S : Sto) : Option Sto := match dtnAt S (.loc n), tkN dk with
  | some (false, kvs), some k => if kvs.length < line then some (S.set n (.dtn false (putN kvs k dk dv))) else none
  | _, _ => none
theorem nputD_of {n : Nat} {dk dv : D} {S S' : Sto} (h : nputD n dk dv S = some S') : ∃ kvs k, dtnAt S (.loc n) = some (false, kvs) ∧ tkN dk = some k ∧ kvs.length < line ∧ S' = S.set n (.dtn false (putN kvs k dk dv)) := by
  unfold nputD at h
  split at h
  · rename_i kvs k e1 e2
    split at h
    · cases h
      exact ⟨kvs, k, e1, e2, by assumption, rfl⟩
    · cases h
  · cases h
def sgN (X : Cx) (cl : Cl) : StG := fun M y z H Nx => ∃ ρ S n dk dv S', RelH (gx X cl) ρ H S ∧ ρ[n]? = some M ∧ RV (gx X cl) ρ H dk y ∧ RV (gx X cl) ρ H dv z ∧ nputD n dk dv S = some S' ∧ ∀ H', Ext (gx X cl) ρ ρ H H' → RelH (gx X cl) ρ H' S' → Nx H'
theorem sgN_ok {X : Cx} {cl : Cl} (hp : cl.pw = some (X.prog, X.w)) (hu : X.A.units + 65 < cLine) : StOk X (sgN X cl) := by
  intro Y hP hw hK hA pins σ H s E M y z u r Nx I ry rz ⟨ρ, S, n, dk, dv, S', rel, hn, rk, rv, hput, hNx⟩
  have e : gx X cl = gx Y cl := by
    show (⟨X.K, cl⟩ : Ct) = ⟨Y.K, cl⟩
    rw [hK]
  rw [e] at rel rk rv hNx
  have hp' : cl.pw = some (Y.prog, Y.w) := by rw [hP, hw]; exact hp
  have hu' : Y.A.units + 65 < cLine := by rw [hA]; exact hu
  obtain ⟨kvs, k, h1, h2, hl, rfl⟩ := nputD_of hput
  obtain ⟨a, n', xs, R⟩ := dtn_rd I hp' rel (show RV (gx Y cl) ρ H (.loc n) (.ref M) from ⟨M, rfl, hn⟩) h1
  have ed := R.d; have ev := R.v
  cases ed; cases ev
  obtain ⟨k1, k2, xs', rfl⟩ := tkN_of h2
  obtain ⟨t, vs, rfl, _⟩ := id rk
  cases (show u = Value.ref t from ry)
  refine wpAny_dictSet_heap (hsz := R.le) (roomN0 hu') ⟨isN I _ _ _ _ rk rfl k1, k2⟩ R.dd fun h' hm hs' => ?_
  obtain ⟨H4, I4, e4, r4⟩ := dtn_put (t' := _) I hp' rel R hl k1 k2 rk rv rz hm hs'
  exact ⟨H4, I4, hNx H4 e4 r4⟩
def dcLN (src : Src) (t : Tgt) (T : Sl → Sto → R Bool) (Ek E : Sl → Sto → R D) (n : Nat) : Nat → Nat → Sl → Sto → R D
  | 0, _, _, _ => .bad
  | k + 1, i, σ, S => match nextI S i src with
    | none => .bad
    | some none => .ok (.loc n) S
    | some (some d) => match t.put d σ with
      | none => .bad
      | some σ2 => match T σ2 S with
        | .ok false S1 => dcLN src t T Ek E n k (i + 1) σ S1
        | .ok true S1 => match Ek σ2 S1 with
          | .ok x S2 => match E σ2 S2 with
            | .ok y S3 => match nputD n x y S3 with
              | some S4 => dcLN src t T Ek E n k (i + 1) σ S4
              | none => .bad
            | _ => .bad
          | _ => .bad
        | _ => .bad
def FDcN (fuel : Nat) (I : Sl → Sto → R Src) (t : Tgt) (T : Sl → Sto → R Bool) (Ek E : Sl → Sto → R D) (vs : List Nat) : Sl → Sto → R D := fun σ S => (I σ S).to fun src S1 =>
  dcLN src t T Ek E S1.length fuel 0 (wipeD σ vs) (S1 ++ [.dct false []])
section
variable {X : Cx} {cl : Cl} {W : WX}
theorem dcN_of {fuel : Nat} {I : Sl → Sto → R Src} {t : Tgt} {g : TG} {T : Sl → Sto → R Bool} {Ek E : Sl → Sto → R D} {vs : List Nat} (hg : TgOk (gx X cl) t vs g) : ∀ σ H Q, tF (gx X cl) W (FDcN fuel I t T Ek E vs) σ H Q →
    tDg (sgN X cl) (tI (gx X cl) W I) g (tT (gx X cl) W0 T) (tF (gx X cl) W0 Ek) (tF (gx X cl) W0 E) vs σ H Q := fun σ H Q ⟨ρ, σd, S, rel, o⟩ => by
  refine tG_to rel o fun src S1 J H1 ρ1 e1 rel1 t1 o1 => fun Dl hD => ?_
  have eD : Ext (gx X cl) ρ1 (ρ1 ++ [Dl]) H1 (upd H1 Dl (.dK [])) := (Ext.new hD).more
  have rD : RelH (gx X cl) (ρ1 ++ [Dl]) (upd H1 Dl (.dK [])) (S1 ++ [.dct false []]) := rel1.hp.new hD ⟨[], upd_same, rfl⟩
  have aD : (ρ1 ++ [Dl])[S1.length]? = some Dl := by rw [← rel1.hp.len, List.getElem?_append_right (Nat.le_refl _)]; simp
  have relD := (rel1.step eD rD).wipe vs
  refine ⟨fun i m H => ∃ ρ S, Ext (gx X cl) (ρ1 ++ [Dl]) ρ (upd H1 Dl (.dK [])) H ∧ Rel (gx X cl) ρ (L2.wipe σ vs) (wipeD σd vs) H S ∧ Out (gx X cl) (RV (gx X cl)) W ρ σ H (dcLN src t T Ek E S1.length m i (wipeD σd vs) S) Q, ⟨fuel, _, _, Ext.refl, relD, Out.mono eD o1⟩, ?_⟩
  rintro i m H2 ⟨ρ2, S2, e2, rel2, o2⟩
  cases m with
  | zero => exact o2.elim
  | succ m =>
    unfold dcLN at o2
    cases hn : nextI S2 i src with
    | none => rw [hn] at o2; exact o2.elim
    | some od =>
      rw [hn] at o2
      cases od with
      | none => exact .inl ⟨t1.stop ρ2 H2 S2 i (eD.trans e2) rel2.hp hn, Out.ret o2 rel2.hp ⟨Dl, rfl, e2.get aD⟩⟩
      | some d =>
        dsimp only at o2
        obtain ⟨g1, g2⟩ := t1.go ρ2 H2 S2 i d (eD.trans e2) rel2.hp hn
        refine .inr ⟨g1, fun H => ∃ ρ S, Ext (gx X cl) (ρ1 ++ [Dl]) ρ (upd H1 Dl (.dK [])) H ∧ Rel (gx X cl) ρ (L2.wipe σ vs) (wipeD σd vs) H S ∧ Out (gx X cl) (RV (gx X cl)) W ρ σ H (dcLN src t T Ek E S1.length m (i + 1) (wipeD σd vs) S) Q, fun H' h => ⟨m, Nat.lt_succ_self m, h⟩, fun x H3 y => ?_⟩
        obtain ⟨e3, r3, rv⟩ := g2 x H3 y
        have o3 := Out.mono e3 o2
        cases hp : t.put d (wipeD σd vs) with
        | none => rw [hp] at o3; exact o3.elim
        | some σ2d =>
          rw [hp] at o3
          dsimp only at o3
          refine hg.run ρ2 (L2.wipe σ vs) (wipeD σd vs) H3 S2 d x _ σ2d (rel2.step e3 r3) rv hp fun σ4 rel4 hw => ⟨hw.trans wipe_idem, ?_⟩
          cases hT : T σ2d S2 with
          | bad => rw [hT] at o3; exact o3.elim
          | ex c fs S3 => rw [hT] at o3; exact o3.elim
          | ok b S3 =>
            rw [hT] at o3
            refine ⟨ρ2, σ2d, S2, rel4, ?_⟩
            rw [hT]
            intro b' H4 ρ4 e4 r4 eb
            subst eb
            have o4 := Out.mono e4 o3
            cases b with
            | false =>
              rw [if_neg Bool.false_ne_true]
              exact ⟨ρ4, S3, e2.trans (e3.trans e4), (rel2.step e3 r3).step e4 r4, o4⟩
            | true =>
              rw [if_pos rfl]
              dsimp only at o4
              refine ⟨ρ4, σ2d, S3, rel4.step e4 r4, ?_⟩
              cases hK : Ek σ2d S3 with
              | bad => rw [hK] at o4; exact o4.elim
              | ex c fs S5 => rw [hK] at o4; exact o4.elim
              | ok kd S5 =>
                rw [hK] at o4
                intro u H5 ρ5 e5 r5 rv5
                have o5 := Out.mono e5 o4
                dsimp only at o5
                refine ⟨ρ5, σ2d, S5, (rel4.step e4 r4).step e5 r5, ?_⟩
                cases hE : E σ2d S5 with
                | bad => rw [hE] at o5; exact o5.elim
                | ex c fs S6 => rw [hE] at o5; exact o5.elim
                | ok y S6 =>
                  rw [hE] at o5
                  intro v H6 ρ6 e6 r6 rv6
                  have o6 := Out.mono e6 o5
                  dsimp only at o6
                  cases hpa : nputD S1.length kd y S6 with
                  | none => rw [hpa] at o6; exact o6.elim
                  | some S7 =>
                    rw [hpa] at o6
                    have eA := e2.trans (e3.trans (e4.trans (e5.trans e6)))
                    refine ⟨ρ6, S6, S1.length, kd, y, S7, r6, eA.get aD, rv5.ext e6, rv6, hpa, fun H7 e7 r7 => ⟨ρ6, S7, eA.trans e7, ?_, Out.mono e7 o6⟩⟩
                    exact ((rel2.step e3 r3).step (e4.trans (e5.trans e6)) r6).step e7 r7
theorem f_dcN {fuel : Nat} {kx vx tg iter : Expr} {ifs : List Expr} {scope : Scope} {own : List (Str × Nat)} {pos : Pos} {I : Sl → Sto → R Src} {t : Tgt} {g : TG} {T : Sl → Sto → R Bool} {Ek E : Sl → Sto → R D} (hp : cl.pw = some (X.prog, X.w)) (hu : X.A.units + 65 < cLine) (hc : X.calm = true) (hN : X.N.Nodup) (hi : PI X tg iter (tI (gx X cl) W I)) (ok : BlkOk X.N X.env.scope scope own)
    (hg : ∀ (s : Shared) (H : Hp) (C : Addr) (cls : List (Str × Addr)) (fp : List Addr), PG (X.blk s H scope (compEnvC scope cls C X.env) fp) tg g) (hgo : TgOk (gx X cl) t (own.map (·.2)) g)
    (ht : ∀ (s : Shared) (H : Hp) (C : Addr) (cls : List (Str × Addr)) (fp : List Addr), PTs (X.blk s H scope (compEnvC scope cls C X.env) fp) ifs (tT (gx X cl) W0 T))
    (hk : ∀ (s : Shared) (H : Hp) (C : Addr) (cls : List (Str × Addr)) (fp : List Addr), PE (X.blk s H scope (compEnvC scope cls C X.env) fp) kx (tF (gx X cl) W0 Ek))
    (he : ∀ (s : Shared) (H : Hp) (C : Addr) (cls : List (Str × Addr)) (fp : List Addr), PE (X.blk s H scope (compEnvC scope cls C X.env) fp) vx (tF (gx X cl) W0 E)) (hs : ∀ x, foldedSetIterable iter X.env x = pure x := by intro _; rfl) :
    PE X (.DictComp kx vx [⟨tg, iter, ifs, 0⟩] scope pos) (tF (gx X cl) W (FDcN fuel I t T Ek E (own.map (·.2)))) :=
  PE.imp (p_dg (sgN_ok hp hu) hc hN hi ok hg ht hk he hs) (dcN_of hgo)
end
end Mi
set_option Elab.async false
set_option autoImplicit false
set_option linter.all false
set_option maxRecDepth 100000
set_option maxHeartbeats 4000000
namespace Mi
open PySem L2
/-! ### a dict that no name holds: it stays locked from its walk on -/
section
variable {X : Cx} {cl : Cl} {W : WX} {tg e : Expr} {apos cpos : Pos} {A : Sl → Sto → R D}
/-- the store with the dict n locked (it may be so already), if its keys are tuples -/
def lockL (n : Nat) (S : Sto) : Option Sto := match lkN S n with
  | some _ => some S
  | none => match lockSN n S with
    | some S2 => match lkN S2 n with
      | some _ => some S2
      | none => none
    | none => none
theorem lockL_of {n : Nat} {S S2 : Sto} (h : lockL n S = some S2) : (S2 = S ∧ ∃ kvs, lkN S n = some kvs) ∨ (lockSN n S = some S2 ∧ ∃ kvs, lkN S2 n = some kvs) := by
  unfold lockL at h
  cases h1 : lkN S n with
  | some kvs => rw [h1] at h; cases h; exact .inl ⟨rfl, kvs, rfl⟩
  | none =>
    rw [h1] at h
    dsimp only at h
    cases h2 : lockSN n S with
    | none => rw [h2] at h; cases h
    | some S3 =>
      rw [h2] at h
      dsimp only at h
      cases h3 : lkN S3 n with
      | none => rw [h3] at h; cases h
      | some kvs => rw [h3] at h; cases h; exact .inr ⟨rfl, kvs, h3⟩
def IKL (F : Sl → Sto → R D) : Sl → Sto → R Src := fun σ S => (F σ S).to fun d S1 => match d with
  | .loc n => match lockL n S1 with
    | some S2 => .ok (.keysN n) S2
    | none => .bad
  | _ => .bad
def IIL (F : Sl → Sto → R D) : Sl → Sto → R Src := fun σ S => (F σ S).to fun d S1 => match d with
  | .loc n => match lockL n S1 with
    | some S2 => .ok (.itemsN n) S2
    | none => .bad
  | _ => .bad
/-- the ghost lock -/
theorem ghost {pins : List (Addr × Obj)} {s : Shared} {σ : L2.St} {H : Hp} {ρ : List Addr} {S S2 : Sto} {n : Nat} {a : Addr} (I : Inv X pins σ H s) (rel : RelH (gx X cl) ρ H S) (ha : ρ[n]? = some a) (h : lockL n S = some S2) :
    ∃ H2 kvs, Inv X pins σ H2 s ∧ Ext (gx X cl) ρ ρ H H2 ∧ RelH (gx X cl) ρ H2 S2 ∧ lkN S2 n = some kvs := by
  rcases lockL_of h with ⟨rfl, kvs, h1⟩ | ⟨h1, kvs, h2⟩
  · exact ⟨H, kvs, I, Ext.refl, rel, h1⟩
  · obtain ⟨o, o', hs, ho, rfl⟩ := lockSN_of h1
    obtain ⟨u, hH, mu, _, hom⟩ := om_lock ho (rel.obj n a o ha hs)
    obtain ⟨od, I2⟩ := I.lock hH mu
    have muH : Mut (H a) := by rw [hH]; exact mu
    have ew : Ext (gx X cl) ρ ρ H (upd H a (.frz od u)) := Ext.write muH
    exact ⟨_, kvs, I2, ew, rel.write ha muH (hom od _ ew.w upd_same), h2⟩
theorem itN_ok (hp : cl.pw = some (X.prog, X.w)) {ρ : List Addr} {H : Hp} {n : Nat} {a : Addr} {o : Obj} {u : HO} {xs : List (NestedKey × Addr × Value)} {kvs : List (NestedKey × D × D)} (ha : ρ[n]? = some a) (L : LkR X cl ρ H a o u xs kvs) : ItOk (gx X cl) ρ H (.keysN n) (Itn X.prog X.w a o u) := by
  refine ⟨fun ρ' H' S' i e r hn => ?_, fun ρ' H' S' i d e r hn => ?_⟩
  all_goals
    have f1 := e.frz _ _ _ L.h
    unfold nextI at hn
    dsimp only at hn
    cases hl : lkN S' n with
    | none => rw [hl] at hn; cases hn
    | some kvs' =>
      rw [hl] at hn
      dsimp only at hn
      obtain ⟨o', u', xs', L'⟩ := lk_of hp r (e.get ha) hl
      obtain ⟨rfl, rfl⟩ := frz_inj f1 L'.h
      cases q : kvs'[i]? with
      | none =>
        rw [q] at hn
        first
          | exact ⟨f1, xs', L'.R, by rw [← L'.rn.length]; exact List.getElem?_eq_none_iff.mp q⟩
          | cases hn
      | some p =>
        rw [q] at hn; cases hn
        try
          obtain ⟨b, uu, v, hb, rk, rv, rr⟩ := L'.rn.get q
          refine ⟨⟨f1, xs', L'.R, (List.getElem?_eq_some_iff.mp hb).1⟩, fun x H2 ⟨eH, b', ex, all⟩ => ?_⟩
          subst eH; subst ex
          obtain ⟨y, hy, ey⟩ := all xs' L'.R
          rw [hb] at hy; cases hy
          subst ey
          exact ⟨Ext.refl, r, rk⟩
theorem itNi_ok (hp : cl.pw = some (X.prog, X.w)) {ρ : List Addr} {H : Hp} {n : Nat} {a : Addr} {o : Obj} {u : HO} {xs : List (NestedKey × Addr × Value)} {kvs : List (NestedKey × D × D)} (ha : ρ[n]? = some a) (L : LkR X cl ρ H a o u xs kvs) : ItOk (gx X cl) ρ H (.itemsN n) (Itni X.prog X.w a o u) := by
  refine ⟨fun ρ' H' S' i e r hn => ?_, fun ρ' H' S' i d e r hn => ?_⟩
  all_goals
    have f1 := e.frz _ _ _ L.h
    unfold nextI at hn
    dsimp only at hn
    cases hl : lkN S' n with
    | none => rw [hl] at hn; cases hn
    | some kvs' =>
      rw [hl] at hn
      dsimp only at hn
      obtain ⟨o', u', xs', L'⟩ := lk_of hp r (e.get ha) hl
      obtain ⟨rfl, rfl⟩ := frz_inj f1 L'.h
      cases q : kvs'[i]? with
      | none =>
        rw [q] at hn
        first
          | exact ⟨f1, xs', L'.R, by rw [← L'.rn.length]; exact List.getElem?_eq_none_iff.mp q⟩
          | cases hn
      | some p =>
        rw [q] at hn; cases hn
        try
          obtain ⟨b, uu, v, hb, rk, rv, rr⟩ := L'.rn.get q
          refine ⟨⟨f1, xs', L'.R, _, v, hb, rr⟩, fun x H2 ⟨T, b', v', ex, hT, eH, all⟩ => ?_⟩
          subst eH; subst ex
          obtain ⟨y, hy, ey, rv'⟩ := all xs' L'.R
          rw [hb] at hy; cases hy
          subst ey
          cases relV_inj rr rv'
          have e2 : Ext (gx X cl) ρ' ρ' H' (upd H' T (.tup [.ref b', v])) := Ext.new hT
          exact ⟨e2, r.side hT, T, _, rfl, SqT.of upd_same, _, _, rfl, rk.ext e2, _, _, rfl, rv.ext e2, rfl⟩
theorem i_keysL (hp : cl.pw = some (X.prog, X.w)) (he : PE X e (tF (gx X cl) W A)) : PI X tg e (tI (gx X cl) W (IKL A)) := by
  refine ⟨fun pins s σ H R I ⟨ρ, σd, S, rel, oo⟩ => ?_⟩
  refine thn (he.run pins s σ H (fun x H1 => ∃ ρ1 S1 S2 n a, x = .ref a ∧ RelH (gx X cl) ρ1 H1 S1 ∧ ρ1[n]? = some a ∧ lockL n S1 = some S2 ∧ Out (gx X cl) (fun ρ H s J => ItOk (gx X cl) ρ H s J) W ρ1 σ H1 (.ok (.keysN n) S2) R) I (tG_to rel oo fun d S1 x H1 ρ1 e1 rel1 t1 o1 => ?_)) fun uv s1 ⟨x, H1, I1, rx, ρ1, S1, S2, n, a, ex, r1, ha, hl, o1⟩ => ?_
  · cases d <;> first | exact o1.elim | skip
    rename_i n
    dsimp only at o1
    cases hl : lockL n S1 with
    | none => rw [hl] at o1; exact o1.elim
    | some S2 =>
      rw [hl] at o1
      obtain ⟨a, rfl, ha⟩ := t1
      exact ⟨ρ1, S1, S2, n, a, rfl, rel1.hp, ha, hl, o1⟩
  · subst ex
    cases (show uv = Value.ref a from rx)
    obtain ⟨H2, kvs, I2, e2, r2, hk⟩ := ghost I1 r1 ha hl
    obtain ⟨o, u, xs, L⟩ := lk_of hp r2 ha hk
    obtain ⟨hs, hgd, hx, es, ep, hdt, hsz, ent⟩ := L.R.ok _ _ (I2.hok a _ L.h)
    exact iter_keys hs hgd hx hdt (pi_one (tk := s1.toks) I2 _ (turn_keysN (u := u) _ hdt) ⟨_, Heap.get?_push_size _ rfl, rfl, rfl⟩ (o1 _ _ ρ1 e2 r2 (itN_ok hp ha L)))
theorem i_itemsL {elts : List Expr} {kk : Nat} {tpos : Pos} (hp : cl.pw = some (X.prog, X.w)) (he : PE X e (tF (gx X cl) W A)) (hbase : attributeBase e "items" X.env (eval e X.env) = eval e X.env := by rfl) (hline : (apos.endLine == cpos.line) = true := by rfl) :
    PI X (.Tuple elts kk tpos) (.Call (.Attribute e "items" apos) [] [] cpos) (tI (gx X cl) W (IIL A)) := by
  refine ⟨fun pins s σ H R I ⟨ρ, σd, S, rel, oo⟩ => ?_⟩
  refine wpAny_Call_method (T := "dict") (id := "dict.items") hbase rfl hline F.plainAttrs_dict F.slot_dict_items F.type_dict_items (thn (he.run pins s σ H (fun x H1 => ∃ ρ1 S1 S2 n a, x = .ref a ∧ RelH (gx X cl) ρ1 H1 S1 ∧ ρ1[n]? = some a ∧ lockL n S1 = some S2 ∧ Out (gx X cl) (fun ρ H s J => ItOk (gx X cl) ρ H s J) W ρ1 σ H1 (.ok (.itemsN n) S2) R) I (tG_to rel oo fun d S1 x H1 ρ1 e1 rel1 t1 o1 => ?_)) fun uv s1 ⟨x, H1, I1, rx, ρ1, S1, S2, n, a, ex, r1, ha, hl, o1⟩ => ?_)
  · cases d <;> first | exact o1.elim | skip
    rename_i n
    dsimp only at o1
    cases hl : lockL n S1 with
    | none => rw [hl] at o1; exact o1.elim
    | some S2 =>
      rw [hl] at o1
      obtain ⟨a, rfl, ha⟩ := t1
      exact ⟨ρ1, S1, S2, n, a, rfl, rel1.hp, ha, hl, o1⟩
  · subst ex
    cases (show uv = Value.ref a from rx)
    obtain ⟨H2, kvs, I2, e2, r2, hk⟩ := ghost I1 r1 ha hl
    obtain ⟨o, u, xs, L⟩ := lk_of hp r2 ha hk
    obtain ⟨hs, hgd, hx, es, ep, hdt, hsz, ent⟩ := L.R.ok _ _ (I2.hok a _ L.h)
    have hraw : s1.heap.DictRaw a es ep := ⟨o, hgd, hx, hdt⟩
    refine ⟨hraw.typeIs, fun b q => by cases q; exact ⟨o, hgd, hx.2.1⟩, ?_⟩
    have I3 : Inv X pins σ H2 { s1 with heap := s1.heap.push { cls := .type "dict_items", data := .fields #[.ref a] } } := I2.kept (t' := s1.toks) fun b ob q => Heap.get?_push_of_some _ q
    show wpAny _ _ (callWith cpos (.builtin "dict.items") [.ref a] [] []) _ X.xe s1
    refine method_meetsIn F.slot_dict_items F.entry_dict_items rfl (PySem.evalArgs_none ⟨rfl, hraw.typeIs, F.args_dict_items_1 _, _, meets_dict_items_raw a hs, ⟨es, ep, hraw⟩, ?_⟩)
    exact wpAny_pyIter_items_raw (d := a) ⟨_, Heap.get?_push_size _ rfl, rfl, rfl⟩ (hraw.at fun o q => Heap.get?_push_of_some _ q) (pi_one (tk := s1.toks) I3 _ (turn_itemsN (u := u) _ hdt) ⟨.none, .none, Heap.get?_push_size _ rfl⟩ (o1 _ _ ρ1 e2 r2 (itNi_ok hp ha L)))
end
/-! ### displays of any number of pairs -/
def dispD : List ((Sl → Sto → R D) × (Sl → Sto → R D)) → Sl → Sto → R (List (D × D))
  | [], _, S => .ok [] S
  | p :: r, σ, S => (p.1 σ S).to fun a S1 => (p.2 σ S1).to fun b S2 => (dispD r σ S2).to fun ps S3 => .ok ((a, b) :: ps) S3
def storeK : List (Key × D) → List (D × D) → Option (List (Key × D))
  | kvs, [] => some kvs
  | kvs, p :: r => match keyD p.1 with
    | some k => if ndK kvs = true then storeK (putD kvs k p.2) r else none
    | none => none
def storeN : List (NestedKey × D × D) → List (D × D) → Option (List (NestedKey × D × D))
  | kvs, [] => some kvs
  | kvs, p :: r => match tkN p.1 with
    | some k => storeN (putN kvs k p.1 p.2) r
    | none => none
def isE0 : Option O → Bool
  | some (.dct false []) => true
  | _ => false
def FDispK (ps : List ((Sl → Sto → R D) × (Sl → Sto → R D))) : Sl → Sto → R D := fun σ S => (dispD ps σ (S ++ [.dct false []])).to fun ls S2 => match storeK [] ls, isE0 S2[S.length]? with
  | some kvs, true => if ls.length ≤ 15 then .ok (.loc S.length) (S2.set S.length (.dct false kvs)) else .bad
  | _, _ => .bad
def FDispN (ps : List ((Sl → Sto → R D) × (Sl → Sto → R D))) : Sl → Sto → R D := fun σ S => (dispD ps σ (S ++ [.dct false []])).to fun ls S2 => match storeN [] ls, isE0 S2[S.length]? with
  | some kvs, true => if ls.length ≤ 15 then .ok (.loc S.length) (S2.set S.length (.dtn false kvs)) else .bad
  | _, _ => .bad
theorem isE0_of {o : Option O} (h : isE0 o = true) : o = some (.dct false []) := by
  unfold isE0 at h
  split at h
  · rfl
  · cases h
section
variable {X : Cx} {cl : Cl} {W : WX}
def RPs (G : Ct) (ρ : List Addr) (H : Hp) : List (D × D) → List (V × V) → Prop
  | [], vs => vs = []
  | p :: ps, vs => ∃ x y r, vs = (x, y) :: r ∧ RV G ρ H p.1 x ∧ RV G ρ H p.2 y ∧ RPs G ρ H ps r
theorem RPs.ext {G : Ct} {ρ ρ' : List Addr} {H H' : Hp} (e : Ext G ρ ρ' H H') : ∀ {ps : List (D × D)} {vs : List (V × V)}, RPs G ρ H ps vs → RPs G ρ' H' ps vs
  | [], _, h => h
  | p :: ps, _, h => by
    obtain ⟨x, y, r, rfl, h1, h2, h3⟩ := h
    exact ⟨x, y, r, rfl, h1.ext e, h2.ext e, RPs.ext e h3⟩
theorem RPs.length {G : Ct} {ρ : List Addr} {H : Hp} : ∀ {ps : List (D × D)} {vs : List (V × V)}, RPs G ρ H ps vs → ps.length = vs.length
  | [], _, h => by cases h; rfl
  | p :: ps, _, h => by
    obtain ⟨x, y, r, rfl, _, _, h3⟩ := h
    simp [RPs.length h3]
/-- what the pairs' readings are -/
inductive TrsOf (X : Cx) (cl : Cl) (W : WX) : List (TE × TE) → List ((Sl → Sto → R D) × (Sl → Sto → R D)) → Prop where
  | nil : TrsOf X cl W [] []
  | cons {trs ps A B} : TrsOf X cl W trs ps → TrsOf X cl W ((tF (gx X cl) W A, tF (gx X cl) W B) :: trs) ((A, B) :: ps)
theorem tPairs_of {trs : List (TE × TE)} {ps : List ((Sl → Sto → R D) × (Sl → Sto → R D))} (h : TrsOf X cl W trs ps) : ∀ {ρ : List Addr} {σ : L2.St} {σd : Sl} {H : Hp} {S : Sto} {k : List (D × D) → Sto → R D} {Q : VK} {Q1 : List (V × V) → Hp → Prop}, Rel (gx X cl) ρ σ σd H S → Out (gx X cl) (RV (gx X cl)) W ρ σ H ((dispD ps σd S).to k) Q →
    (∀ ls S2 vs H2 ρ2, Ext (gx X cl) ρ ρ2 H H2 → Rel (gx X cl) ρ2 σ σd H2 S2 → RPs (gx X cl) ρ2 H2 ls vs → Out (gx X cl) (RV (gx X cl)) W ρ2 σ H2 (k ls S2) Q → Q1 vs H2) → tPairs trs σ H Q1 := by
  induction h with
  | nil => exact fun rel o hq => hq [] _ [] _ _ Ext.refl rel rfl o
  | @cons trs ps A B h ih =>
    intro ρ σ σd H S k Q Q1 rel o hq
    have e : (dispD ((A, B) :: ps) σd S).to k = (A σd S).to fun a S1 => (B σd S1).to fun b S2 => (dispD ps σd S2).to fun ls S3 => k ((a, b) :: ls) S3 := by
      show (((A σd S).to fun a S1 => (B σd S1).to fun b S2 => (dispD ps σd S2).to fun ls S3 => .ok ((a, b) :: ls) S3).to k) = _
      cases A σd S with
      | bad => rfl
      | ex c fs S1 => rfl
      | ok a S1 =>
        show (((B σd S1).to fun b S2 => (dispD ps σd S2).to fun ls S3 => .ok ((a, b) :: ls) S3).to k) = (B σd S1).to fun b S2 => (dispD ps σd S2).to fun ls S3 => k ((a, b) :: ls) S3
        cases B σd S1 with
        | bad => rfl
        | ex c fs S2 => rfl
        | ok b S2 =>
          show (((dispD ps σd S2).to fun ls S3 => .ok ((a, b) :: ls) S3).to k) = (dispD ps σd S2).to fun ls S3 => k ((a, b) :: ls) S3
          cases dispD ps σd S2 with
          | bad => rfl
          | ex c fs S3 => rfl
          | ok ls S3 => rfl
    rw [e] at o
    refine tG_to rel o fun a S1 x H1 ρ1 e1 rel1 t1 o1 => tG_to rel1 o1 fun b S2 y H2 ρ2 e2 rel2 t2 o2 => ?_
    exact ih rel2 o2 fun ls S3 vs H3 ρ3 e3 rel3 t3 o3 => hq ((a, b) :: ls) S3 ((x, y) :: vs) H3 ρ3 (e1.trans (e2.trans e3)) rel3 ⟨x, y, vs, rfl, t1.ext (e2.trans e3), t2.ext e3, t3⟩ o3
end
end Mi
set_option Elab.async false
set_option autoImplicit false
set_option linter.all false
set_option maxRecDepth 100000
set_option maxHeartbeats 6400000
namespace Mi
open PySem PySem.Spec PyProof.Rows L2
/-! ### set(xs), xs a list of hall -/
/-- the new set, empty -/
abbrev set0 (w : World) : Obj := { cls := .type "set", dict := none, data := .set #[] 0 (.fresh 0 0 (!w.params.followText "set-order")) }
section
variable {P : Program} {w : World} {A : Around} {E : Value → Shared → Prop} {s : Shared}
theorem set_ints {l : Addr} {its : Array Value} (ns : List Int) {Q : Value → Shared → Prop} (quiet : A.handled = none) (isl : s.heap.IsList l its) (hall : IntsAre its.toList ns) (few : ns.length + 1 < scanBound)
    (k : ∀ (h' : Heap) (tk c : Nat), SetR w h' s.heap.objs.size (fun j => decide (j ∈ ns)) c → c ≤ ns.length → (∀ b o, s.heap.get? b = some o → h'.get? b = some o) → Q (.ref s.heap.objs.size) { s with heap := h', toks := tk }) :
    wpAny (model P w) A (call (.type "set") [.ref l]) Q E s := by
  have size : its.size = ns.length := by rw [← Array.length_toList]; exact IntsAre.length hall
  have at_ : ∀ (i : Nat) (v : Value), its[i]? = some v → ∃ z t, ns[i]? = some z ∧ v = .int z t := fun i v hv => by
    have lt : i < ns.length := by rw [← size]; exact (Array.getElem?_eq_some_iff.mp hv).1
    obtain ⟨t, e⟩ := PyProof.Rows.IntsAre.int_at hall i v (by rw [Array.getElem?_toList]; exact hv)
    exact ⟨ns[i], t, List.getElem?_eq_getElem lt, by rw [e, List.getD_eq_getElem?_getD, List.getElem?_eq_getElem lt] <;> rfl⟩
  obtain ⟨mro, tl, f1⟩ := F.called_set.mro
  have f2 := F.called_set.made
  have f3 := F.called_set.sub
  have f4 := F.called_set.notType
  have f5 := F.called_set.canCreate
  have f6 := F.typeCall_set_1 (.ref l)
  refine wpAny_call (codeAny_of_tree ?_)
  show wpAny _ _ (callAny (.type "set") _) _ _ _
  refine wpAny_pure ⟨Code.quiet_builtin _ (by decide +kernel), codeAny_builtin F.entry_type_call ?_⟩
  rw [Around.under_plain (weight_type_call_type "set" [.ref l] []) rfl]
  repeat (any_goals (first | assumption | wp_step))
  -- made
  refine codeAny_mono (code_set_led1 (.ref l) (E := E) (Q₁ := fun made sa => made = .ref s.heap.objs.size ∧ sa = { s with heap := s.heap.push (set0 w) }) ⟨rfl, rfl⟩) fun ra sa ha => ?_
  cases ra with
  | error e => exact ha
  | ok fa =>
    cases fa with
    | next => exact ha.elim
    | brk => exact ha.elim
    | cont => exact ha.elim
    | ret made =>
      obtain ⟨rfl, rfl⟩ := ha
      have there : (s.heap.push (set0 w)).get? s.heap.objs.size = some (set0 w) := Heap.get?_push_size _ rfl
      have ty : Shared.TypeIs { s with heap := s.heap.push (set0 w) } (.ref s.heap.objs.size) "set" := ⟨_, there, rfl⟩
      have g1 := F.called_set.init.lookup
      have g2 := F.called_set.init.bind (.ref s.heap.objs.size)
      repeat (any_goals (first | assumption | wp_step))
      -- filled
      refine codeAny_mono (codeAny_call_builtin (R := wants (fun r sb => r = .none ∧ ∃ h' tk c, sb = { s with heap := h', toks := tk } ∧ SetR w h' s.heap.objs.size (fun j => decide (j ∈ ns)) c ∧ c ≤ ns.length ∧ ∀ b o, s.heap.get? b = some o → h'.get? b = some o) E) F.called_set.init.plain F.entry_set_init (check_set_init_1 ty ?_)) fun rb sb hb => ?_
      · obtain ⟨⟨oc, od, odt, osl⟩, lo, lc, ln, ld⟩ := isl
        simp only at lc ld
        subst lc; subst ld
        have lo2 : (s.heap.push (set0 w)).get? l = some { cls := .type "list", dict := od, data := .seq its ln, slots := osl } := Heap.get?_push_of_some _ lo
        have g3 := F.sub_list_set
        have g4 := F.sub_list_frozenset
        have g5 : (Value.type "list" == Value.type "dict") = false := by decide
        have isl2 : (s.heap.push (set0 w)).IsList l its := ⟨_, lo2, rfl, ln, rfl⟩
        unfold Builtin.«set.__init__» noKeywords Builtin.Frozenset.updateFrom
        generalize ePI : pyIter = PI
        wp_walk
        subst ePI
        refine wpAny_pyIter_list isl2 ?_
        refine wpAny_bind (wpAny_runValue ?_)
        have llt : l < s.heap.objs.size := Heap.lt_size lo
        have h3 : A.in1.in1.in1.handled = none := by simp [quiet]
        have sz : (s.heap.push (set0 w)).objs.size = s.heap.objs.size + 1 := Heap.size_push ..
        have ne1 : l ≠ (s.heap.push (set0 w)).objs.size := by rw [sz]; exact Nat.ne_of_lt (Nat.lt_succ_of_lt llt)
        have ne2 : s.heap.objs.size ∉ [(s.heap.push (set0 w)).objs.size, l] := by
          rw [sz]
          intro hm
          rcases List.mem_cons.mp hm with z | z
          · exact absurd z (Nat.ne_of_lt (Nat.lt_succ_self _))
          · exact absurd (List.mem_singleton.mp z) (Nat.ne_of_gt llt)
        have there2 : ((s.heap.push (set0 w)).push { cls := .type "list_iterator", data := .fields #[.ref l, .int 0 0] }).get? s.heap.objs.size = some (set0 w) := Heap.get?_push_of_some _ there
        refine set_update_ints ((Walks.list h3 _ l ne1 its).toS) s.heap.objs.size ne2 ns size few at_ (its.size - 0) 0 _ (by omega) (Nat.zero_le _) ⟨⟨_, Heap.get?_push_size _ rfl, rfl, rfl⟩, isl2.push _⟩ ⟨0, Nat.le_refl 0, setR_new_at there2⟩ fun sc cc mv le R => ?_
        obtain ⟨hc, gc, dc, tc, oc⟩ := sc
        have e1 : gc = s.gens := mv.gens
        have e2 : dc = s.drawn := mv.drawn
        have e3 : oc = s.os := mv.os
        subst e1; subst e2; subst e3
        show wpAny _ _ _ _ _ _
        refine wpAny_pure ?_
        show wpAny _ _ (ret Value.none) _ _ _
        rw [size] at le
        refine wpAny_pure ⟨rfl, hc, tc, cc, rfl, R, le, fun b o e => ?_⟩
        have blt : b < s.heap.objs.size := Heap.lt_size e
        refine mv.heap b o (fun hm => ?_) (Heap.get?_push_of_some _ (Heap.get?_push_of_some _ e))
        rcases List.mem_cons.mp hm with z | z
        · exact absurd z (Nat.ne_of_lt blt)
        · have z2 := List.mem_singleton.mp z
          rw [sz] at z2
          exact absurd z2 (Nat.ne_of_lt (Nat.lt_succ_of_lt blt))
      · cases rb with
        | error e => exact hb
        | ok fb =>
          cases fb with
          | next => exact hb.elim
          | brk => exact hb.elim
          | cont => exact hb.elim
          | ret r =>
            obtain ⟨rfl, h', tk, c, rfl, R, le, kp⟩ := hb
            repeat (any_goals (first | assumption | wp_step))
            exact k _ _ _ R le kp
end
end Mi
set_option Elab.async false
set_option autoImplicit false
set_option linter.all false
set_option maxRecDepth 100000
set_option maxHeartbeats 4000000
namespace Mi
open PySem PySem.Spec PyProof.Rows L2
section
variable {X : Cx} {cl : Cl} {W : WX} {pos p p2 pos2 : Pos} {e a b : Expr} {A B : Sl → Sto → R D}
/-! ### displays -/
theorem storedH_nd {xs : List (NestedKey × Addr × Value)} {k : NestedKey} {b : Addr} {u : Value} (nd : (xs.map (·.1)).Nodup) : ((storedH xs k b u).map (·.1)).Nodup := by
  unfold storedH
  split
  · have e : (xs.map (PySem.putAt k u)).map (·.1) = xs.map (·.1) := by
      rw [List.map_map]
      refine List.map_congr_left fun x _ => ?_
      show (PySem.putAt k u x).1 = x.1
      unfold PySem.putAt
      split <;> rfl
    rw [e]; exact nd
  · rename_i h
    rw [List.map_append, List.nodup_append]
    refine ⟨nd, by simp, fun x hx y hy => ?_⟩
    have ey : y = k := by simpa using hy
    subst ey
    intro z
    subst z
    refine h ?_
    cases q : atKey xs x with
    | some v => rfl
    | none =>
      exfalso
      clear h nd hy
      induction xs with
      | nil => cases hx
      | cons z zs ih =>
        by_cases e : z.1 = x
        · rw [at_pos e] at q; cases q
        · rw [at_neg e] at q
          rw [List.map_cons, List.mem_cons] at hx
          exact ih (hx.resolve_left fun w => e w.symm) q
theorem carries_n {pins : List (Addr × Obj)} {s : Shared} {σ : L2.St} {H : Hp} {ρ : List Addr} (I : Inv X pins σ H s) : ∀ {ls : List (D × D)} {vs : List (V × V)} {ws : List (Value × Value)} {kvs kvs' : List (NestedKey × D × D)} {xs : List (NestedKey × Addr × Value)}, RPs (gx X cl) ρ H ls vs → VV vs ws → RNs (gx X cl) ρ H kvs xs → (xs.map (·.1)).Nodup → storeN kvs ls = some kvs' →
    ∃ ps, CarriesH (nestedKind X.prog X.w) s.heap ws ps ∧ RNs (gx X cl) ρ H kvs' (storedAllH xs ps) ∧ ps.length = ls.length
  | [], _, _, kvs, kvs', xs, h, q, rn, nd, hs => by
    cases h
    cases q
    cases hs
    exact ⟨[], trivial, rn, rfl⟩
  | l :: ls, _, _, kvs, kvs', xs, h, q, rn, nd, hs => by
    obtain ⟨x, y, r, rfl, h1, h2, h3⟩ := h
    cases q with
    | @cons _ w _ ws q1 q2 =>
      obtain ⟨u, v⟩ := w
      obtain ⟨q3, q4⟩ := q1
      unfold storeN at hs
      cases hk : tkN l.1 with
      | none => rw [hk] at hs; cases hs
      | some k =>
        rw [hk] at hs
        obtain ⟨k1, k2, ts, et⟩ := tkN_of hk
        have h1' := h1
        rw [et] at h1'
        obtain ⟨t, us, ex, _⟩ := h1'
        subst ex
        cases (show u = Value.ref t from q3)
        obtain ⟨ps, c1, c2, c3⟩ := carries_n I (xs := storedH xs k t v) h3 q2 (putN_rv k1 k2 h1 h2 q4 rn nd) (storedH_nd nd) hs
        exact ⟨(k, t, v) :: ps, ⟨rfl, rfl, ⟨isN I _ _ _ _ h1 rfl k1, k2⟩, c1⟩, c2, by simp [c3]⟩
theorem f_dispN {keys : List (Option Expr)} {values : List Expr} {trs : List (TE × TE)} {ps : List ((Sl → Sto → R D) × (Sl → Sto → R D))} (hp : cl.pw = some (X.prog, X.w)) (hu : X.A.units + 65 < cLine) (h : PPs X pos keys values trs) (ht : TrsOf X cl W trs ps) (hall : keys.all (·.isSome) = true := by rfl) (hl : keys.length = values.length := by rfl) (h0 : keys ≠ [] := by simp)
    (h15 : keys.length ≤ 15 := by decide) : PE X (.Dict keys values pos) (tF (gx X cl) W (FDispN ps)) := by
  refine ⟨fun pins s σ H Q I ⟨ρ, σd, S, rel, oo⟩ => ?_⟩
  generalize ea : s.heap.objs.size = a
  have hn : H a = none := I.hok.fresh (Nat.le_of_eq ea)
  have I1 : Inv X pins σ (upd H a (.dK [])) { s with heap := s.heap.push { cls := .type "dict", data := .dict #[] } } := by
    refine I.laid (t' := s.toks) (fun _ _ q => Heap.get?_push_of_some _ q) (Nat.le_of_eq ea) ?_
    rw [← ea]
    exact dk_empty s.heap I.big
  have e0 : Ext (gx X cl) ρ (ρ ++ [a]) H (upd H a (.dK [])) := (Ext.new hn).more
  have r0 : Rel (gx X cl) (ρ ++ [a]) σ σd (upd H a (.dK [])) (S ++ [.dct false []]) := rel.step e0 (rel.hp.new hn ⟨[], upd_same, rfl⟩)
  have ap : (ρ ++ [a])[S.length]? = some a := by rw [← rel.hp.len, List.getElem?_append_right (Nat.le_refl _)]; simp
  have hlen := pairTrees_length keys values X.env pos hall hl
  have hne : pairTrees keys values X.env pos ≠ [] := fun z => by
    rw [z] at hlen
    exact h0 (List.length_eq_zero_iff.mp hlen.symm)
  have hlt : (pairTrees keys values X.env pos).length < 17 := by omega
  have hle : (pairTrees keys values X.env pos).length ≤ 15 := by omega
  rw [arm_eval_Dict, zip_pairTrees keys values X.env pos hall hl, dictDisplay_pairs _ hne hlt]
  refine wpAny_bind (wpAny_standAt (wpAny_bind (wpAny_subDictH (knd := nestedKind X.prog X.w) (Q := fun d s' => wpAny (model X.prog X.w) X.A (pure (Value.ref d)) (EP X pins σ Q) X.xe s') (roomN0 hu) hle ?_)))
  refine thn (h.run pins _ σ _ (fun vs H2 => ∃ ρ2 S2 ls, RelH (gx X cl) ρ2 H2 S2 ∧ ρ2[S.length]? = some a ∧ RPs (gx X cl) ρ2 H2 ls vs ∧ Out (gx X cl) (RV (gx X cl)) W ρ2 σ H2 (match storeN [] ls, isE0 S2[S.length]? with
    | some kvs, true => if ls.length ≤ 15 then .ok (.loc S.length) (S2.set S.length (.dtn false kvs)) else .bad
    | _, _ => .bad) Q) I1 (tPairs_of ht r0 (Out.mono e0 oo) fun ls S2 vs H2 ρ2 e2 rel2 t2 o2 => ⟨ρ2, S2, ls, rel2.hp, e2.get ap, t2, o2⟩)) fun ws s2 ⟨vs, H2, I2, hvv, ρ2, S2, ls, rel2, ap2, hrp, o2⟩ => ?_
  cases h1 : storeN [] ls with
  | none => rw [h1] at o2; exact o2.elim
  | some kvs =>
    rw [h1] at o2
    cases h2 : isE0 S2[S.length]? with
    | false => rw [h2] at o2; exact o2.elim
    | true =>
      rw [h2] at o2
      dsimp only at o2
      by_cases hls : ls.length ≤ 15
      · rw [if_pos hls] at o2
        have hs := isE0_of h2
        have at2 : dtnAt S2 (.loc S.length) = some (false, []) := by
          unfold dtnAt
          dsimp only
          rw [hs]
        obtain ⟨a', n', xs, R⟩ := dtn_rd I2 hp rel2 (show RV (gx X cl) ρ2 H2 (.loc S.length) (.ref a) from ⟨a, rfl, ap2⟩) at2
        have ed := R.d; have ev := R.v
        cases ed; cases ev
        have exs : xs = [] := R.rn
        subst exs
        obtain ⟨ps', c1, c2, c3⟩ := carries_n I2 hrp hvv (show RNs (gx X cl) ρ2 H2 [] [] from rfl) List.nodup_nil h1
        have dd0 := R.dd
        rw [ea]
        refine ⟨ps', c1, dd0, fun h' tk hm hsb => ?_⟩
        obtain ⟨o, es, ep, g1, g2, g3, g4, g5, g6⟩ := hm
        have mu := R.mu rfl
        have ew : Ext (gx X cl) ρ2 ρ2 H2 (upd H2 a (.ext (NkObj X.prog X.w a (storedAllH [] ps')))) := Ext.write mu
        have hlen2 : (storedAllH [] ps').length ≤ sizeLine := by
          have : ∀ (ps acc : List (NestedKey × Addr × Value)), (storedAllH acc ps).length ≤ acc.length + ps.length := fun ps => by
            induction ps with
            | nil => exact fun acc => Nat.le_refl _
            | cons p ps ih =>
              intro acc
              have h1 := ih (storedH acc p.1 p.2.1 p.2.2)
              have h2 := storedH_length acc p.1 p.2.1 p.2.2
              show (storedAllH (storedH acc p.1 p.2.1 p.2.2) ps).length ≤ _
              rw [List.length_cons]; omega
          have h3 := this ps' []
          have h4 : (100 : Nat) < sizeLine := by decide
          rw [List.length_nil] at h3
          omega
        have I3 := d_write (ob := .ext (NkObj X.prog X.w a (storedAllH [] ps'))) (t' := tk) I2 mu hsb ⟨o, g1⟩ ⟨⟨R.sys, hlen2, o, es, ep, g1, g2, g3, g4, g6⟩, ⟨o, g1⟩, fun h1 h2 ⟨z1, z2, o', es', ep', q1, q2⟩ st => ⟨z1, z2, o', es', ep', st _ q1, q2⟩⟩
        exact wpAny_pure ⟨.ref a, _, I3, rfl, o2 _ _ ρ2 ew (rel2.write ap2 mu ⟨X.prog, X.w, _, hp, upd_same, c2.ext ew⟩) ⟨a, rfl, ap2⟩⟩
      · rw [if_neg hls] at o2; exact o2.elim
theorem f_dispK {keys : List (Option Expr)} {values : List Expr} {trs : List (TE × TE)} {ps : List ((Sl → Sto → R D) × (Sl → Sto → R D))} (h : PPs X pos keys values trs) (ht : TrsOf X cl W trs ps) (hall : keys.all (·.isSome) = true := by rfl) (hl : keys.length = values.length := by rfl) (h0 : keys ≠ [] := by simp)
    (h15 : keys.length ≤ 15 := by decide) : PE X (.Dict keys values pos) (tF (gx X cl) W (FDispK ps)) := by
  refine PE.imp (pe_disp h hall hl h0 h15) fun σ H Q ⟨ρ, σd, S, rel, oo⟩ => fun a hn => ?_
  have e0 : Ext (gx X cl) ρ (ρ ++ [a]) H (upd H a (.dK [])) := (Ext.new hn).more
  have r0 : Rel (gx X cl) (ρ ++ [a]) σ σd (upd H a (.dK [])) (S ++ [.dct false []]) := rel.step e0 (rel.hp.new hn ⟨[], upd_same, rfl⟩)
  have ap : (ρ ++ [a])[S.length]? = some a := by rw [← rel.hp.len, List.getElem?_append_right (Nat.le_refl _)]; simp
  refine tPairs_of ht r0 (Out.mono e0 oo) fun ls S2 vs H2 ρ2 e2 rel2 t2 o2 => ?_
  have ap2 := e2.get ap
  cases h1 : storeK [] ls with
  | none => rw [h1] at o2; exact o2.elim
  | some kvs =>
    rw [h1] at o2
    cases h2 : isE0 S2[S.length]? with
    | false => rw [h2] at o2; exact o2.elim
    | true =>
      rw [h2] at o2
      dsimp only at o2
      by_cases hls : ls.length ≤ 15
      · rw [if_pos hls] at o2
        have hs := isE0_of h2
        obtain ⟨ks, g1, g2⟩ := rel2.hp.obj _ _ _ ap2 hs
        cases g2
        have key : ∀ (ls : List (D × D)) (vs : List (V × V)) (acc acc' : List (Key × D)) (ak : List (Key × V)), RPs (gx X cl) ρ2 H2 ls vs → RKs (gx X cl) ρ2 H2 acc ak → storeK acc ls = some acc' →
            ∃ kv : List (Key × V), vs = kv.map (fun z => (kV z.1, z.2)) ∧ kv.length = ls.length ∧ RKs (gx X cl) ρ2 H2 acc' (mergeK ak kv) := fun ls => by
          induction ls with
          | nil =>
            intro vs acc acc' ak h rk hs
            cases h; cases hs
            exact ⟨[], rfl, rfl, rk⟩
          | cons l ls ih =>
            intro vs acc acc' ak h rk hs
            obtain ⟨x, y, r, rfl, q1, q2, q3⟩ := h
            unfold storeK at hs
            cases hk : keyD l.1 with
            | none => rw [hk] at hs; cases hs
            | some k =>
              rw [hk] at hs
              dsimp only at hs
              by_cases nd : ndK acc = true
              · rw [if_pos nd] at hs
                obtain ⟨kv, e1, e2, e3⟩ := ih r _ _ (putK ak k y) q3 (putD_rv q2 rk (ndK_of nd)) hs
                exact ⟨(k, y) :: kv, by rw [keyD_rv hk q1, e1]; rfl, by simp [e2], e3⟩
              · rw [if_neg nd] at hs; cases hs
        obtain ⟨kv, e1, e3, e4⟩ := key ls vs [] kvs [] t2 rfl h1
        have mu : Mut (H2 a) := by rw [g1]; trivial
        have ew : Ext (gx X cl) ρ2 ρ2 H2 (upd H2 a (.dK (mergeK [] kv))) := Ext.write mu
        exact ⟨g1, kv, e1, by omega, o2 _ _ ρ2 ew (rel2.hp.write ap2 mu ⟨_, upd_same, e4.ext ew⟩) ⟨a, rfl, ap2⟩⟩
      · rw [if_neg hls] at o2; exact o2.elim
/-! ### x in y, any data -/
def opInDp (neg : Bool) : D2 := fun a b S => match pdN S 1 a, pdN S 1 b with
  | some p, some (.list ps) => if SeqAt.shaped p = true ∧ SeqAt.shaped (.list ps) = true then .ok (.bl (if neg then !(ps.any fun z => PyData.eqv z p) else ps.any fun z => PyData.eqv z p)) S else .bad
  | some p, some (.tuple ps) => if SeqAt.shaped p = true ∧ SeqAt.shaped (.tuple ps) = true then .ok (.bl (if neg then !(ps.any fun z => PyData.eqv z p) else ps.any fun z => PyData.eqv z p)) S else .bad
  | _, _ => .bad
def rInA (K : PySem.W.Frag) (neg : Bool) : R2 := fun x y H Q => ∃ d ds, Dp K H x d ∧ SeqAt.shaped d = true ∧ ((Dp K H y (.list ds) ∧ SeqAt.shaped (.list ds) = true) ∨ (Dp K H y (.tuple ds) ∧ SeqAt.shaped (.tuple ds) = true)) ∧ Q (.bl (if neg then !(ds.any fun z => PyData.eqv z d) else ds.any fun z => PyData.eqv z d)) H
theorem op_inA (hu : X.A.units + 65 < cLine) : OpR X (compareOp .In) (rInA X.K false) := by
  intro pins s σ H x y v u Q I rx ry ⟨d, ds, hd, sd, he, q⟩
  obtain ⟨as, r1⟩ := Dp.reads I d x v hd rx
  rcases he with ⟨he, se⟩ | ⟨he, se⟩
  · obtain ⟨bs, r2⟩ := Dp.reads I (.list ds) y u he ry
    exact SeqAt.in_list_reads r2 r1 (SeqAt.canLay_of_shaped se) (SeqAt.canLay_of_shaped sd) (room_in_shaped sd hu) ⟨.bl _, H, I, rfl, q⟩
  · obtain ⟨bs, r2⟩ := Dp.reads I (.tuple ds) y u he ry
    exact SeqAt.in_tuple_reads r2 r1 (SeqAt.canLay_of_shaped se) (SeqAt.canLay_of_shaped sd) (room_in_shaped sd hu) ⟨.bl _, H, I, rfl, q⟩
theorem op_notInA (hu : X.A.units + 65 < cLine) : OpR X (compareOp .NotIn) (rInA X.K true) := by
  intro pins s σ H x y v u Q I rx ry ⟨d, ds, hd, sd, he, q⟩
  obtain ⟨as, r1⟩ := Dp.reads I d x v hd rx
  rcases he with ⟨he, se⟩ | ⟨he, se⟩
  · obtain ⟨bs, r2⟩ := Dp.reads I (.list ds) y u he ry
    exact SeqAt.notIn_list_reads r2 r1 (SeqAt.canLay_of_shaped se) (SeqAt.canLay_of_shaped sd) (room_in_shaped sd hu) ⟨.bl _, H, I, rfl, q⟩
  · obtain ⟨bs, r2⟩ := Dp.reads I (.tuple ds) y u he ry
    exact SeqAt.notIn_tuple_reads r2 r1 (SeqAt.canLay_of_shaped se) (SeqAt.canLay_of_shaped sd) (room_in_shaped sd hu) ⟨.bl _, H, I, rfl, q⟩
theorem o_inA (neg : Bool) : Op2 (gx X cl) W (opInDp neg) (rInA X.K neg) := by
  intro ρ σ H S a b x y Q rel ra rb o
  unfold opInDp at o
  cases e1 : pdN S 1 a with
  | none => rw [e1] at o; exact o.elim
  | some p =>
    cases e2 : pdN S 1 b with
    | none => rw [e1, e2] at o; exact o.elim
    | some q =>
      rw [e1, e2] at o
      have d1 := pdN_of rel 1 a x p e1 ra
      have d2 := pdN_of rel 1 b y q e2 rb
      cases q <;> first | exact o.elim | skip
      · rename_i ps
        dsimp only at o
        by_cases h : SeqAt.shaped p = true ∧ SeqAt.shaped (.list ps) = true
        · rw [if_pos h] at o
          exact ⟨p, ps, d1, h.1, .inl ⟨d2, h.2⟩, Out.ret o rel rfl⟩
        · rw [if_neg h] at o; exact o.elim
      · rename_i ps
        dsimp only at o
        by_cases h : SeqAt.shaped p = true ∧ SeqAt.shaped (.tuple ps) = true
        · rw [if_pos h] at o
          exact ⟨p, ps, d1, h.1, .inr ⟨d2, h.2⟩, Out.ret o rel rfl⟩
        · rw [if_neg h] at o; exact o.elim
/-! ### sorted(set(xs)) -/
def dd1 : List Int → List Int
  | [] => []
  | x :: xs => match xs.any fun y => decide (y = x) with
    | true => dd1 xs
    | false => x :: dd1 xs
theorem dd1_mem {x : Int} : ∀ {l : List Int}, x ∈ dd1 l ↔ x ∈ l
  | [] => Iff.rfl
  | y :: l => by
    unfold dd1
    cases h : l.any fun z => decide (z = y) with
    | true =>
      dsimp only
      rw [dd1_mem (l := l), List.mem_cons]
      constructor
      · exact .inr
      · rintro (rfl | h2)
        · obtain ⟨z, hz, ez⟩ := List.any_eq_true.mp h
          have e := of_decide_eq_true ez
          rw [← e]; exact hz
        · exact h2
    | false =>
      dsimp only
      rw [List.mem_cons, List.mem_cons, dd1_mem (l := l)]
theorem dd1_nd : ∀ l : List Int, (dd1 l).Nodup
  | [] => List.nodup_nil
  | y :: l => by
    unfold dd1
    cases h : l.any fun z => decide (z = y) with
    | true => exact dd1_nd l
    | false =>
      dsimp only
      rw [List.nodup_cons]
      refine ⟨fun hm => ?_, dd1_nd l⟩
      have hm' := dd1_mem.mp hm
      have : (l.any fun z => decide (z = y)) = true := List.any_eq_true.mpr ⟨y, hm', decide_eq_true rfl⟩
      rw [h] at this; cases this
def fnSortSet : DN := fun ds S => match ds with
  | [.loc n] => match S[n]? with
    | some (.lst xs) => match intsD xs with
      | some ns => if ns.length < 64 then .ok (.loc S.length) (S ++ [.lst ((srt (dd1 ns)).map D.int)]) else .bad
      | none => .bad
    | _ => .bad
  | _ => .bad
def FSortSet (A : Sl → Sto → R D) : Sl → Sto → R D := fun σ S => (A σ S).to fun a S1 => fnSortSet [a] S1
def tSetI (X : Cx) (ta : TE) : TE := fun σ H Q => ta σ H fun x H1 => ∃ (l : Addr) (ns : List Int), x = V.ref l ∧ SqL X.K H1 l (ns.map V.int) ∧ ns.length < 64 ∧ ∀ p c, H1 p = none → c ≤ ns.length → Q (.ref p) (upd H1 p (SetO X.w p (fun j => decide (j ∈ ns)) c))
theorem pe_set {ta : TE} (hc : X.calm = true) (hm : X.mg "set" = none) (ha : PE X a ta) (hg : Gl X "set" := by rfl) (na : starEach [a] X.env = (false, eval a X.env) :: starEach [] X.env := by rfl) : PE X (.Call (.Name "set" p2) [a] [] pos2) (tSetI X ta) := by
  refine ⟨fun pins s σ H Q I h => ?_⟩
  refine Call_ (ld_blt I hg hm PyProof.Rows.boot_set ?_)
  refine PyProof.Rows.callWith_type1 (PyProof.Rows.args_cons (thn (ha.run pins s σ H _ I h) fun v s1 ⟨x, H1, I1, r1, l, ns, ex, hq, hl, q⟩ => PyProof.Rows.args_nil ?_) na) na rfl
  subst ex
  cases (show v = Value.ref l from r1)
  obtain ⟨its, r, pl, hz⟩ := I1.list hq
  refine set_ints ns (I1.ok.hd hc) pl.isList (by simpa using r.ints) (by unfold scanBound; omega) fun h' tk c R le kp => ?_
  exact ⟨.ref s1.heap.objs.size, _, I1.laid (t' := tk) kp (Nat.le_refl _) (setO_new R), rfl, q _ c (I1.hok.fresh (Nat.le_refl _)) le⟩
theorem f_sortSet {p : Pos} (hc : X.calm = true) (hm : X.mg "set" = none) (hm1 : X.mg "sorted" = none) (ha : PE X a (tF (gx X cl) W A)) (hg : Gl X "set" := by rfl) (hg1 : Gl X "sorted" := by rfl) (na : starEach [a] X.env = (false, eval a X.env) :: starEach [] X.env := by rfl)
    (he : starEach [.Call (.Name "set" p2) [a] [] pos2] X.env = (false, eval (.Call (.Name "set" p2) [a] [] pos2) X.env) :: starEach [] X.env := by rfl) :
    PE X (.Call (.Name "sorted" p) [.Call (.Name "set" p2) [a] [] pos2] [] pos) (tF (gx X cl) W (FSortSet A)) := by
  refine PE.imp (pe_callB (cr_sortedSet hc) hg1 hm1 (by decide +kernel) (pa_cons (pe_set hc hm ha hg na) pa_nil he) (by decide) (by decide) he rfl) fun σ H Q ⟨ρ, σd, S, rel, oo⟩ => ?_
  refine tG_to rel oo fun a S1 x H1 ρ1 e1 rel1 t1 o1 => ?_
  unfold fnSortSet at o1
  cases a <;> first | exact o1.elim | skip
  rename_i n
  dsimp only at o1
  split at o1
  · rename_i xs hx
    cases hi : intsD xs with
    | none => rw [hi] at o1; exact o1.elim
    | some ns =>
      rw [hi] at o1
      dsimp only at o1
      by_cases h64 : ns.length < 64
      · rw [if_pos h64] at o1
        obtain ⟨l, vs, rfl, _, h1, h2⟩ := seqL_of rel1.hp t1 hx
        rw [intsD_of hi h2] at h1
        refine ⟨l, ns, rfl, SqL.of h1, h64, fun q c hq hle => ⟨q, _, c, rfl, upd_same, by omega, fun out r hs hm hl hr => ?_⟩⟩
        have hout : out = srt (dd1 ns) := by
          refine srt_eq ?_ (hs.imp fun h => Int.le_of_lt h)
          refine (List.perm_ext_iff_of_nodup (hs.imp fun h => Int.ne_of_lt h) (dd1_nd ns)).mpr fun k => ?_
          rw [hm k, dd1_mem]
          exact decide_eq_true_iff
        have er : Ext (gx X cl) ρ1 ρ1 H1 (upd H1 q (SetO X.w q (fun j => decide (j ∈ ns)) c)) := Ext.new hq
        have rr : RelH (gx X cl) ρ1 (upd H1 q (SetO X.w q (fun j => decide (j ∈ ns)) c)) S1 := rel1.hp.side hq
        have eb : Ext (gx X cl) ρ1 (ρ1 ++ [r]) (upd H1 q (SetO X.w q (fun j => decide (j ∈ ns)) c)) (upd (upd H1 q (SetO X.w q (fun j => decide (j ∈ ns)) c)) r (.lst (out.map V.int))) := (Ext.new hr).more
        refine o1 _ _ (ρ1 ++ [r]) (er.trans eb) (rr.new hr ⟨_, upd_same, ?_⟩) ⟨r, rfl, ?_⟩
        · rw [← hout]
          exact rvs_ints out
        · rw [← rel1.hp.len, List.getElem?_append_right (Nat.le_refl _)]; simp
      · rw [if_neg h64] at o1; exact o1.elim
  · exact o1.elim
/-! ### o.f, whatever the class -/
def FFldX (tab : Nat → Option Nat) (A : Sl → Sto → R D) : Sl → Sto → R D := fun σ S => (A σ S).to fun a S1 => match a with
  | .loc n => match S1[n]? with
    | some (.ins c ds) => match tab c with
      | some i => match ds[i]? with
        | some d => .ok d S1
        | none => .bad
      | none => .bad
    | _ => .bad
  | _ => .bad
end
end Mi
set_option Elab.async false
set_option autoImplicit false
set_option linter.all false
set_option maxRecDepth 100000
set_option maxHeartbeats 4000000
namespace Mi
open PySem PySem.W PySem.Spec PyProof.Rows L2
section
variable {X : Cx} {cl : Cl} {W : WX} {pos p p2 kpos : Pos} {e o : Expr} {f : Str} {A : Sl → Sto → R D}
/-! ### o.f, whatever the class -/
theorem f_fldX {tab : Nat → Option Nat} (ht : ∀ c i, tab c = some i → ClsF X.K cl c ∧ (cl.fn c)[i]? = some f) (ho : PE X o (tF (gx X cl) W A)) (hb : attributeBase o f X.env (eval o X.env) = eval o X.env := by rfl) : PE X (.Attribute o f pos) (tF (gx X cl) W (FFldX tab A)) := by
  refine PE.imp (pe_fld ho hb) fun σ H Q ⟨ρ, σd, S, rel, oo⟩ => tG_to rel oo fun a S1 v H1 ρ1 e1 rel1 t1 o1 => ?_
  cases a <;> first | exact o1.elim | skip
  rename_i n
  dsimp only at o1
  split at o1
  · rename_i c ds hs
    cases hc : tab c with
    | none => rw [hc] at o1; exact o1.elim
    | some i =>
      rw [hc] at o1
      dsimp only at o1
      cases hd : ds[i]? with
      | none => rw [hd] at o1; exact o1.elim
      | some d =>
        rw [hd] at o1
        obtain ⟨C, hf⟩ := ht c i hc
        have hi : insAt S1 c (.loc n) = some ds := by
          unfold insAt
          dsimp only
          rw [hs]
          exact if_pos rfl
        obtain ⟨b, n', dx, vs, en, _, _, rfl, h1, h2, _⟩ := ins_of rel1.hp t1 hi
        obtain ⟨w, hw, rw'⟩ := h2.get hd
        exact ⟨b, _, dx, _, w, rfl, h1, C.k.cl, C.na f (List.mem_of_getElem? hf), zip_at C.nd hf hw, Out.ret o1 rel1.hp rw'⟩
  · exact o1.elim
/-! ### sorted(xs, key=len), where xs is in order already -/
def lensD : List D → Option (List Nat)
  | [] => some []
  | .tup ts :: r => match lensD r with
    | some ns => some (ts.length :: ns)
    | none => none
  | _ :: _ => none
def ordB : List Nat → Bool
  | [] => true
  | [_] => true
  | a :: b :: r => decide (a ≤ b) && ordB (b :: r)
theorem ordB_pw : ∀ {l : List Nat}, ordB l = true → l.Pairwise (· ≤ ·)
  | [], _ => .nil
  | [_], _ => by simp
  | a :: b :: r, h => by
    have h2 : (decide (a ≤ b) && ordB (b :: r)) = true := h
    rw [Bool.and_eq_true] at h2
    have ih := ordB_pw h2.2
    have hab := of_decide_eq_true h2.1
    rw [List.pairwise_cons]
    refine ⟨fun x hx => ?_, ih⟩
    rcases List.mem_cons.mp hx with rfl | hx
    · exact hab
    · exact Nat.le_trans hab ((List.pairwise_cons.mp ih).1 x hx)
def FSortLen (A : Sl → Sto → R D) : Sl → Sto → R D := fun σ S => (A σ S).to fun a S1 => match a with
  | .loc n => match S1[n]? with
    | some (.lst xs) => match lensD xs with
      | some ns => if ordB ns = true ∧ xs.length ≤ line then .ok (.loc S1.length) (S1 ++ [.lst xs]) else .bad
      | none => .bad
    | _ => .bad
  | _ => .bad
/-- a tuple of so many items -/
def LenAt (h : Heap) (v : Value) (p : Value × Nat) : Prop := v = p.1 ∧ ∃ t its, v = .ref t ∧ IsTup h t (List.toArray its) ∧ its.length = p.2 ∧ its.length ≤ sizeLine
theorem lenAt_of {pins : List (Addr × Obj)} {σ : L2.St} {H : Hp} {s : Shared} {ρ : List Addr} (I : Inv X pins σ H s) : ∀ {ds : List D} {vs : List V} {us : List Value} {ns : List Nat}, lensD ds = some ns → RVs (gx X cl) ρ H ds vs → Vals vs us → us.length = ns.length ∧ EachIs (LenAt s.heap) us (us.zip ns)
  | [], vs, us, ns, h, h1, r => by
    cases h
    cases (show vs = [] from h1)
    cases r
    exact ⟨rfl, .nil⟩
  | .tup ts :: ds, vs, us, ns, h, h1, r => by
    unfold lensD at h
    cases hl : lensD ds with
    | none => rw [hl] at h; cases h
    | some ms =>
      rw [hl] at h
      obtain rfl := Option.some.inj h
      obtain ⟨v, r1, rfl, ⟨a, xs, rfl, hq, hxs⟩, h2⟩ := h1
      cases r with
      | cons ru rr =>
        rename_i u us'
        obtain rfl : u = Value.ref a := ru
        obtain ⟨e1, e2⟩ := lenAt_of I hl h2 rr
        obtain ⟨its, ri, ht, hz⟩ := I.tuple hq
        have el : its.length = ts.length := by rw [← ri.length, ← hxs.length]
        have hz' : its.length ≤ sizeLine := by rw [← ri.length]; exact hz
        exact ⟨by rw [List.length_cons, List.length_cons, e1], .cons ⟨rfl, a, its, rfl, ht, el, hz'⟩ e2⟩
  | .non :: _, _, _, _, h, _, _ | .bl _ :: _, _, _, _, h, _, _ | .int _ :: _, _, _, _, h, _, _ | .str _ :: _, _, _, _, h, _, _ | .fl _ :: _, _, _, _, h, _, _ | .loc _ :: _, _, _, _, h, _, _ | .cls _ :: _, _, _, _, h, _, _ | .exc _ _ :: _, _, _, _, h, _, _ => by cases h
theorem pair_lens : ∀ {us : List Value} {ns : List Nat}, us.length = ns.length → ns.Pairwise (· ≤ ·) → (us.zip ns).Pairwise fun a b => decide ((a.2 : Int) ≤ (b.2 : Int)) = true
  | [], [], _, _ => .nil
  | u :: us, n :: ns, h, p => by
    rw [List.zip_cons_cons, List.pairwise_cons]
    rw [List.pairwise_cons] at p
    refine ⟨fun q hq => decide_eq_true ?_, pair_lens (Nat.succ.inj h) p.2⟩
    have := p.1 q.2 (List.of_mem_zip hq).2
    exact Int.ofNat_le.mpr this
  | [], _ :: _, h, _ => by cases h
  | _ :: _, [], h, _ => by cases h
theorem lenAt_vals {h : Heap} : ∀ {out us : List Value} {ns : List Nat}, us.length = ns.length → EachIs (LenAt h) out (us.zip ns) → out = us
  | out, [], [], _, e => by
    generalize hb : ([] : List Value).zip ([] : List Nat) = b at e
    cases e with
    | nil => rfl
    | cons _ _ => cases hb
  | out, u :: us, n :: ns, hl, e => by
    generalize hb : (u :: us).zip (n :: ns) = b at e
    cases e with
    | nil => cases hb
    | cons h1 h2 =>
      rw [List.zip_cons_cons] at hb
      obtain ⟨rfl, rfl⟩ := List.cons.inj hb
      rw [show _ = u from h1.1, lenAt_vals (Nat.succ.inj hl) h2]
  | _, [], _ :: _, h, _ => by cases h
  | _, _ :: _, [], h, _ => by cases h
theorem f_sortLen {x : Expr} {p1 p2 pos kp : Pos} (hu : X.A.units + 5 < cLine) (hm : X.mg "sorted" = none) (hm1 : X.mg "len" = none) (ha : PE X x (tF (gx X cl) W A)) (hg : Gl X "sorted" := by rfl) (hg1 : Gl X "len" := by rfl)
    (na : starEach [x] X.env = (false, eval x X.env) :: starEach [] X.env := by rfl) (he : backTo pos (starEach [x] X.env) = (false, eval x X.env) :: backTo pos (starEach [] X.env) := by rfl) (hpl : (backTo pos (starEach [x] X.env)).any (·.1) = false := by rfl)
    (hall : (backToKw pos (keywordEach [⟨some "key", .Name "len" p1, kp⟩] X.env)).all (·.1.isSome) = true := by rfl) (hnone : (backToKw pos (keywordEach [⟨some "key", .Name "len" p1, kp⟩] X.env)).any (·.1.isNone) = false := by rfl)
    (hks : (backToKw pos (keywordEach [⟨some "key", .Name "len" p1, kp⟩] X.env)).filterMap (·.1) = [Str.ofString "key"] := by rfl) :
    PE X (.Call (.Name "sorted" p2) [x] [⟨some "key", .Name "len" p1, kp⟩] pos) (tF (gx X cl) W (FSortLen A)) := by
  refine ⟨fun pins s σ H Q I ⟨ρ, σd, S, rel, o⟩ => ?_⟩
  refine wpAny_Call_Name_kw (ld_blt I hg hm PyProof.Rows.boot_sorted ?_)
  refine PyProof.Rows.callWith_kw (PyProof.Rows.args_cons (thn (ha.run pins s σ H (fun v H1 => ∃ (l : Addr) (ds : List D) (vs : List V) (ns : List Nat) (ρ1 : List Addr), v = .ref l ∧ H1 l = some (.lst vs) ∧ RVs (gx X cl) ρ1 H1 ds vs ∧ lensD ds = some ns ∧ ordB ns = true ∧ ds.length ≤ line ∧ ∀ p, H1 p = none → Q (.ref p) (upd H1 p (.lst vs))) I (tG_to rel o fun a S1 v H1 ρ1 e1 rel1 t1 o1 => ?_)) fun u1 s1 ⟨x1, H1, I1, r1, l, ds, vs, ns, ρ1, ex, hq, hv, hl, ho, hz, q⟩ => PyProof.Rows.args_nil ?_) na) he hpl hall hnone
  · cases a <;> first | exact o1.elim | skip
    rename_i n
    dsimp only at o1
    split at o1
    · rename_i ds hx
      cases hl : lensD ds with
      | none => rw [hl] at o1; exact o1.elim
      | some ns =>
        rw [hl] at o1
        dsimp only at o1
        by_cases hh : ordB ns = true ∧ ds.length ≤ line
        · rw [if_pos hh] at o1
          obtain ⟨l, vs, rfl, _, h1, h2⟩ := seqL_of rel1.hp t1 hx
          refine ⟨l, ds, vs, ns, ρ1, rfl, h1, h2, hl, hh.1, hh.2, fun p hp => ?_⟩
          have e2 : Ext (gx X cl) ρ1 (ρ1 ++ [p]) H1 (upd H1 p (.lst vs)) := (Ext.new hp).more
          refine o1 _ _ (ρ1 ++ [p]) e2 (rel1.hp.new hp ⟨vs, upd_same, h2.ext e2⟩) ⟨p, rfl, ?_⟩
          rw [← rel1.hp.len, List.getElem?_append_right (Nat.le_refl _)]; simp
        · rw [if_neg hh] at o1; exact o1.elim
    · exact o1.elim
  · subst ex
    cases (show u1 = Value.ref l from r1)
    have hpw : ns.Pairwise (· ≤ ·) := ordB_pw ho
    obtain ⟨us, rv, pl, hz2⟩ := I1.list (SqL.of hq)
    obtain ⟨e1, e2⟩ := lenAt_of I1 hl hv rv
    have hz3 : us.length ≤ sizeLine := by rw [← rv.length]; exact hz2
    refine wpAny_evalAll_cons (wpAny_bind (ld_blt I1 hg1 hm1 boot_len (wpAny_bind (wpAny_standAt (wpAny_pure (wpAny_evalAll_nil ?_))))))
    show wpAny _ _ (call _ _ (((backToKw pos (keywordEach [⟨some "key", .Name "len" p1, kp⟩] X.env)).filterMap (·.1)).zip [Value.builtin "len"])) _ _ _
    rw [hks]
    have hms : (us.zip ns).map Prod.fst = us := List.map_fst_zip (Nat.le_of_eq e1)
    refine sorted_key_data (b := false) (fun p : Value × Nat => .int p.2) pl.isList e2 (AllAlike.of fun _ _ => by simp [alike]) (Sortable.others (enc := fun p : Value × Nat => .int p.2) fun _ => by simp) (by rw [← hms, List.length_map] at hz3; exact hz3) (fun p _ => ?_) (ksk_s1 _ _) (fun _ => ksk_l1 _ _) (fun _ => ksk_t4 _ _)
      (fun v p ⟨h1, t, its, h2, h3, h4, h5⟩ _ h tk kp => ?_) fun out c h' tk kp fr hD hlo eo => ?_
    · have hd : (PyData.int (p.2 : Int)).depth = 0 := by simp [PyData.depth]
      rw [hd]; omega
    · subst h2
      refine len_tuple (h3.keeps kp) ?_ ?_
      · rw [List.size_toArray]
        exact Int.lt_of_le_of_lt (Int.ofNat_le.mpr h5) (by decide)
      · rw [List.size_toArray, h4]
        exact ⟨h, _, rfl, fun _ _ e => e, .int _ _⟩
    · rw [dataLe_int (fun p : Value × Nat => (p.2 : Int)), List.mergeSort_of_pairwise (pair_lens e1 hpw)] at eo
      have eout : out = us := lenAt_vals e1 eo
      subst eout
      exact ⟨.ref _, upd H1 (s1.heap.objs.size + 1) (.lst vs), I1.laid (t' := tk) kp (Nat.le_succ _) ⟨hz2, _, c, rv, hD⟩, rfl, q _ (I1.hok.fresh (Nat.le_succ _))⟩
/-! ### sorted(t), t a tuple of ints -/
theorem call_sortT {pr : Program} {w : World} {A : Around} {E : Value → Shared → Prop} {s : Shared} {t : Addr} {vs : List Value} {ns : List Int} {Q : Value → Shared → Prop} (ht : IsTup s.heap t vs.toArray) (hi : IntsAre vs ns) (few : vs.length < 64)
    (k : ∀ (h1 h' : Heap) (out : List Value) (ms : List Int) (e : Nat), IntsAre out ms → ms.Perm ns → ms.Pairwise (· ≤ ·) → (∀ b o, s.heap.get? b = some o → h1.get? b = some o) → (∀ b o, h1.get? b = some o → h'.get? b = some o) → h'.get? h1.objs.size = some (seqObj "list" out.toArray e) → Q (.ref h1.objs.size) { s with heap := h' }) :
    wpAny (model pr w) A (call (.builtin "sorted") [.ref t]) Q E s := by
  have small : vs.length ≤ sizeLine := by rw [sizeLine_eq]; omega
  obtain ⟨o, g1, g2, n, g3⟩ := ht
  refine Calls.call_function_entry kind_sorted plain_sorted entry_sorted (args_sorted1 _) ?_
  unfold Builtin.«sorted»
  refine wpAny_bind (m := checkCount "sorted" 1 1 _) (wpAny_pure (wpAny_bind (wpAny_collect_seq t (.inr rfl) g1 g2 g3 (fun h1 kp => wpAny_bind (wpAny_newList ?_ small)) small)))
  have new : (h1.push (seqObj "list" vs.toArray 0)).get? h1.objs.size = some (seqObj "list" vs.toArray 0) := Heap.get?_push_size _ rfl
  refine wpAny_bind (wpAny_holding (wpAny_call_entry slot_list_sort ⟨_, new, rfl⟩ entry_list_sort (list_sort_tree new hi few fun out ms a1 a2 a3 => ⟨_, rfl, wpAny_pure ⟨_, rfl, ?_⟩⟩) (args_list_sort _)))
  obtain ⟨e, he⟩ := sortedHeap_at (out := out) new
  refine k h1 _ out.toList ms e a1 a2 a3 kp (fun b o hb => ?_) (by rw [Array.toArray_toList]; exact he)
  have lt := Heap.lt_size hb
  rw [sortedHeap_old (Nat.ne_of_lt lt) (by rw [size_push']; exact Nat.lt_succ_of_lt lt)]
  exact Heap.get?_push_of_some _ hb
def rSortTI (K : PySem.W.Frag) : List V → Hp → VK → Prop := fun xs H Q => ∃ (t : Addr) (ns : List Int), xs = [.ref t] ∧ SqT K H t (ns.map V.int) ∧ ns.length < 64 ∧ ∀ (ms : List Int) (p : Addr), ms.Perm ns → ms.Pairwise (· ≤ ·) → H p = none → Q (.ref p) (upd H p (.lst (ms.map V.int)))
theorem call_sortTI : CallR X (.builtin "sorted") (rSortTI X.K) := by
  intro pins s σ H xs us Q I r ⟨t, ns, ex, hq, few, q⟩
  subst ex
  rw [Vals.ref1 r]
  obtain ⟨its, rv, ht, hz⟩ := I.tuple hq
  have hl : its.length = ns.length := by rw [← rv.length, List.length_map]
  refine call_sortT ht rv.ints (by omega) fun h1 h' out ms e a1 a2 a3 kp1 kp he => ?_
  have I1 : Inv X pins σ H { s with heap := h1 } := I.kept (t' := s.toks) kp1
  have hlen : (ms.map V.int).length ≤ sizeLine := by rw [List.length_map, a2.length_eq, sizeLine_eq]; omega
  exact ⟨.ref h1.objs.size, upd H h1.objs.size (.lst (ms.map V.int)), I1.laid (t' := s.toks) kp (Nat.le_refl _) ⟨hlen, out, e, vals_of_ints a1, he⟩, rfl, q _ _ a2 a3 (I1.hok.fresh (Nat.le_refl _))⟩
def fnSortTI : DN := fun ds S => match ds with
  | [.tup xs] => match intsD xs with
    | some ns => if ns.length < 64 then .ok (.loc S.length) (S ++ [.lst ((srt ns).map D.int)]) else .bad
    | none => .bad
  | _ => .bad
theorem n_sortTI : Fn (gx X cl) W fnSortTI (rSortTI X.K) := by
  intro ρ σ H S ds vs Q rel r o
  match ds, r, o with
  | [], _, o => exact o.elim
  | [d], r, o =>
    obtain ⟨v, rfl, rv⟩ := rvs1 r
    cases d <;> first | exact o.elim | skip
    rename_i xs
    unfold fnSortTI at o
    dsimp only at o
    cases e : intsD xs with
    | none => rw [e] at o; exact o.elim
    | some ns =>
      rw [e] at o
      dsimp only at o
      by_cases hl : ns.length < 64
      · rw [if_pos hl] at o
        obtain ⟨a, ws, rfl, h1, h2⟩ := rv
        rw [intsD_of e h2] at h1
        refine ⟨a, ns, rfl, h1, hl, fun ms p hp hs hn => ?_⟩
        rw [srt_eq hp hs]
        exact out_new_lst rel (ints_rvs _) o hn
      · rw [if_neg hl] at o; exact o.elim
  | d :: _ :: _, _, o => cases d <;> exact o.elim
theorem hu5 {k : Nat} {A : Around} (r : Room k A) : A.units + 5 < cLine := by have := r.un; omega
end
end Mi
set_option Elab.async false
set_option autoImplicit false
set_option linter.all false
set_option maxRecDepth 100000
set_option maxHeartbeats 4000000
namespace Mi
open PySem PySem.Spec PyProof.Rows L2
/-! ### y = {..}, y = [..] on one line, y a local -/
section
variable {X : Cx}
theorem used_turn {i : Nat} {y : Str} {py : Pos} {pins : List (Addr × Obj)} {σ : L2.St} {D : Ends} {M C : Addr} {s' : Shared} {m : Str → Option Value} {H' : Hp} (hN : X.N.Nodup) (hy : X.N[i]? = some y) (hyl : X.env.scope.names.lookup y = some .local)
    (hI : Inv X pins σ H' s') (q : D.nx (σ.set i (some (.ref M))) H') (hn : s'.heap.Ns C m) (f : FpOk X pins H' C) :
    wpAny (model X.prog X.w) X.A (assign (.Name y py) X.env (.ref M)) (fun _ s => ∃ m, s.heap.Ns C m ∧ ∀ h'', Heap.SameBut C s.heap h'' → SP X pins D .next { s with heap := h'' }) X.xe s' := by
  refine wpAny_assign_Name (store_ok2 (v := V.ref M) hI hN hy (.inl hyl) rfl (fun s2 I2 ⟨a, sb, ha⟩ => ?_) (.inr hyl))
  obtain ⟨f0, f1, f2, f3, f4, f5⟩ := f
  have ne : C ≠ a := by
    rcases ha with z | z
    · rw [z]; exact f1
    · exact fun e => f4 y a z e.symm
  exact ⟨m, hn.sameBut sb ne, fun h3 sb3 => ⟨_, H', I2.turned (t' := s2.toks) (fun b o hb e => (sb3.2 b hb).trans e) f0 f1 f3 f4 f5, q⟩⟩
theorem ps_setDg {sg : StG} {i : Nat} {y : Str} {py : Pos} {kx vx tg iter : Expr} {ifs : List Expr} {scope : Scope} {own : List (Str × Nat)} {pos spos : Pos} {wi : TI} {g : TG} {tt : TT} {tk tv : TE} (hst : StOk X sg) (hc : X.calm = true) (hN : X.N.Nodup) (hy : X.N[i]? = some y) (hyl : X.env.scope.names.lookup y = some .local)
    (hsw : swapsWith (.DictComp kx vx [⟨tg, iter, ifs, 0⟩] scope pos) (some (.Name y py)) spos.line X.env = pure true) (hi : PI X tg iter wi) (ok : BlkOk X.N X.env.scope scope own)
    (hg : ∀ (s : Shared) (H : Hp) (C : Addr) (cls : List (Str × Addr)) (fp : List Addr), PG (X.blk s H scope (compEnvC scope cls C X.env) fp) tg g) (ht : ∀ (s : Shared) (H : Hp) (C : Addr) (cls : List (Str × Addr)) (fp : List Addr), PTs (X.blk s H scope (compEnvC scope cls C X.env) fp) ifs tt)
    (hk : ∀ (s : Shared) (H : Hp) (C : Addr) (cls : List (Str × Addr)) (fp : List Addr), PE (X.blk s H scope (compEnvC scope cls C X.env) fp) kx tk)
    (hv : ∀ (s : Shared) (H : Hp) (C : Addr) (cls : List (Str × Addr)) (fp : List Addr), PE (X.blk s H scope (compEnvC scope cls C X.env) fp) vx tv) (hs : ∀ x, foldedSetIterable iter X.env x = pure x := by intro _; rfl) :
    PS X (.Assign [.Name y py] (.DictComp kx vx [⟨tg, iter, ifs, 0⟩] scope pos) spos) (tAsg (tDg sg wi g tt tk tv (own.map (·.2))) (gName i)) := by
  refine ⟨fun pins s σ H D I h => ?_⟩
  rw [exec_Assign_Name_used _ _ _ _ hsw]
  refine wpAny_bind (wpAny_standAt (wpAny_bind ?_))
  show wpAny _ X.A (do let _ ← comprehension (.DictComp kx vx [⟨tg, iter, ifs, 0⟩] scope pos) scope X.env (firstIterPos [⟨tg, iter, ifs, 0⟩] pos) newDict false (eval iter X.env) (some (assign (.Name y py) X.env))) _ _ s
  have h : tDg sg wi g tt tk tv (own.map (·.2)) σ H (fun x H1 => gName i x σ H1 D.nx) := h
  refine wpAny_bind (thn (dg_run (Qf := fun _ s' => SP X pins D .next s') hst hc hN I hi ok hg ht hk hv hs h (fun M C s' m H' back q ns fp => used_turn hN hy hyl back q ns fp)) fun _ s' hq => wpAny_pure (wpAny_pure hq))
theorem ps_setDc {i : Nat} {y : Str} {py : Pos} {kx vx tg iter : Expr} {ifs : List Expr} {scope : Scope} {own : List (Str × Nat)} {pos spos : Pos} {wi : TI} {g : TG} {tt : TT} {tk tv : TE} (hc : X.calm = true) (hN : X.N.Nodup) (hy : X.N[i]? = some y) (hyl : X.env.scope.names.lookup y = some .local)
    (hsw : swapsWith (.DictComp kx vx [⟨tg, iter, ifs, 0⟩] scope pos) (some (.Name y py)) spos.line X.env = pure true) (hi : PI X tg iter wi) (ok : BlkOk X.N X.env.scope scope own)
    (hg : ∀ (s : Shared) (H : Hp) (C : Addr) (cls : List (Str × Addr)) (fp : List Addr), PG (X.blk s H scope (compEnvC scope cls C X.env) fp) tg g) (ht : ∀ (s : Shared) (H : Hp) (C : Addr) (cls : List (Str × Addr)) (fp : List Addr), PTs (X.blk s H scope (compEnvC scope cls C X.env) fp) ifs tt)
    (hk : ∀ (s : Shared) (H : Hp) (C : Addr) (cls : List (Str × Addr)) (fp : List Addr), PE (X.blk s H scope (compEnvC scope cls C X.env) fp) kx tk)
    (hv : ∀ (s : Shared) (H : Hp) (C : Addr) (cls : List (Str × Addr)) (fp : List Addr), PE (X.blk s H scope (compEnvC scope cls C X.env) fp) vx tv) (hs : ∀ x, foldedSetIterable iter X.env x = pure x := by intro _; rfl) :
    PS X (.Assign [.Name y py] (.DictComp kx vx [⟨tg, iter, ifs, 0⟩] scope pos) spos) (tAsg (tDc wi g tt tk tv (own.map (·.2))) (gName i)) := by
  refine ⟨fun pins s σ H D I h => ?_⟩
  rw [exec_Assign_Name_used _ _ _ _ hsw]
  refine wpAny_bind (wpAny_standAt (wpAny_bind ?_))
  show wpAny _ X.A (do let _ ← comprehension (.DictComp kx vx [⟨tg, iter, ifs, 0⟩] scope pos) scope X.env (firstIterPos [⟨tg, iter, ifs, 0⟩] pos) newDict false (eval iter X.env) (some (assign (.Name y py) X.env))) _ _ s
  have h : tDc wi g tt tk tv (own.map (·.2)) σ H (fun x H1 => gName i x σ H1 D.nx) := h
  refine wpAny_bind (thn (dc_core (Qf := fun _ s' => SP X pins D .next s') hc hN I hi ok hg ht hk hv hs h (fun M C s' m H' back q ns fp => used_turn hN hy hyl back q ns fp)) fun _ s' hq => wpAny_pure (wpAny_pure hq))
end
section
variable {X : Cx} {cl : Cl} {W : WX}
theorem sw_trueD {kx vx : Expr} {gs : List Comprehension} {scope : Scope} {pos py : Pos} {y : Str} {l : Nat} {env : Env} (hk : env.scope.kind = .function) (hy : env.scope.names.lookup y = some .local) (hl : (py.line == pos.line) = true)
    (ha : (scope.names.any fun (n, k) => n == y && (k == .local || k == .cell)) = false) : swapsWith (.DictComp kx vx gs scope pos) (some (.Name y py)) l env = pure true := by
  have e1 : env.kindOf y = some .local := hy
  have e2 : env.blockKind = .function := by unfold Env.blockKind; rw [hk]; rfl
  unfold swapsWith
  simp only [e2, e1, ha, Expr.pos, hl]
  rfl
theorem s_setDcN {fuel i : Nat} {y : Str} {py spos : Pos} {kx vx tg iter : Expr} {ifs : List Expr} {scope : Scope} {own : List (Str × Nat)} {pos : Pos} {I : Sl → Sto → R Src} {t : Tgt} {g : TG} {T : Sl → Sto → R Bool} {Ek E : Sl → Sto → R D} (hp : cl.pw = some (X.prog, X.w)) (hu : X.A.units + 65 < cLine) (hc : X.calm = true) (hN : X.N.Nodup) (hi : PI X tg iter (tI (gx X cl) W I)) (ok : BlkOk X.N X.env.scope scope own)
    (hg : ∀ (s : Shared) (H : Hp) (C : Addr) (cls : List (Str × Addr)) (fp : List Addr), PG (X.blk s H scope (compEnvC scope cls C X.env) fp) tg g) (hgo : TgOk (gx X cl) t (own.map (·.2)) g)
    (ht : ∀ (s : Shared) (H : Hp) (C : Addr) (cls : List (Str × Addr)) (fp : List Addr), PTs (X.blk s H scope (compEnvC scope cls C X.env) fp) ifs (tT (gx X cl) W0 T))
    (hk : ∀ (s : Shared) (H : Hp) (C : Addr) (cls : List (Str × Addr)) (fp : List Addr), PE (X.blk s H scope (compEnvC scope cls C X.env) fp) kx (tF (gx X cl) W0 Ek))
    (hv : ∀ (s : Shared) (H : Hp) (C : Addr) (cls : List (Str × Addr)) (fp : List Addr), PE (X.blk s H scope (compEnvC scope cls C X.env) fp) vx (tF (gx X cl) W0 E)) (hyl : X.env.scope.names.lookup y = some .local := by rfl) (hy : X.N[i]? = some y := by rfl)
    (hsw : swapsWith (.DictComp kx vx [⟨tg, iter, ifs, 0⟩] scope pos) (some (.Name y py)) spos.line X.env = pure true := by exact sw_trueD rfl rfl rfl rfl) (hs : ∀ x, foldedSetIterable iter X.env x = pure x := by intro _; rfl) :
    PS X (.Assign [.Name y py] (.DictComp kx vx [⟨tg, iter, ifs, 0⟩] scope pos) spos) (tS (gx X cl) W (SAsg (FDcN fuel I t T Ek E (own.map (·.2))) (gN i))) :=
  PS.imp (ps_setDg (sgN_ok hp hu) hc hN hy hyl hsw hi ok hg ht hk hv hs) fun D σ H ⟨ρ, σd, S, rel, o⟩ => dcN_of (fuel := fuel) (t := t) (T := T) (Ek := Ek) (E := E) (I := I) hgo σ H _ (tG_toS rel o fun a S1 b H1 ρ1 e1 rel1 t1 o1 => OutS.now o1 (rel1.set t1 i))
theorem s_setDc {fuel i : Nat} {y : Str} {py spos : Pos} {kx vx tg iter : Expr} {ifs : List Expr} {scope : Scope} {own : List (Str × Nat)} {pos : Pos} {I : Sl → Sto → R Src} {t : Tgt} {g : TG} {T : Sl → Sto → R Bool} {Ek E : Sl → Sto → R D} (hc : X.calm = true) (hN : X.N.Nodup) (hi : PI X tg iter (tI (gx X cl) W I)) (ok : BlkOk X.N X.env.scope scope own)
    (hg : ∀ (s : Shared) (H : Hp) (C : Addr) (cls : List (Str × Addr)) (fp : List Addr), PG (X.blk s H scope (compEnvC scope cls C X.env) fp) tg g) (hgo : TgOk (gx X cl) t (own.map (·.2)) g)
    (ht : ∀ (s : Shared) (H : Hp) (C : Addr) (cls : List (Str × Addr)) (fp : List Addr), PTs (X.blk s H scope (compEnvC scope cls C X.env) fp) ifs (tT (gx X cl) W0 T))
    (hk : ∀ (s : Shared) (H : Hp) (C : Addr) (cls : List (Str × Addr)) (fp : List Addr), PE (X.blk s H scope (compEnvC scope cls C X.env) fp) kx (tF (gx X cl) W0 Ek))
    (hv : ∀ (s : Shared) (H : Hp) (C : Addr) (cls : List (Str × Addr)) (fp : List Addr), PE (X.blk s H scope (compEnvC scope cls C X.env) fp) vx (tF (gx X cl) W0 E)) (hyl : X.env.scope.names.lookup y = some .local := by rfl) (hy : X.N[i]? = some y := by rfl)
    (hsw : swapsWith (.DictComp kx vx [⟨tg, iter, ifs, 0⟩] scope pos) (some (.Name y py)) spos.line X.env = pure true := by exact sw_trueD rfl rfl rfl rfl) (hs : ∀ x, foldedSetIterable iter X.env x = pure x := by intro _; rfl) :
    PS X (.Assign [.Name y py] (.DictComp kx vx [⟨tg, iter, ifs, 0⟩] scope pos) spos) (tS (gx X cl) W (SAsg (FDc fuel I t T Ek E (own.map (·.2))) (gN i))) :=
  PS.imp (ps_setDc hc hN hy hyl hsw hi ok hg ht hk hv hs) fun D σ H ⟨ρ, σd, S, rel, o⟩ => dc_of (fuel := fuel) (t := t) (T := T) (Ek := Ek) (E := E) (I := I) hgo σ H _ (tG_toS rel o fun a S1 b H1 ρ1 e1 rel1 t1 o1 => OutS.now o1 (rel1.set t1 i))
theorem s_setLcq {fuel i : Nat} {y : Str} {py spos : Pos} {elt tg iter : Expr} {ifs : List Expr} {scope : Scope} {own : List (Str × Nat)} {pos : Pos} {I : Sl → Sto → R Src} {t : Tgt} {g : TG} {T : Sl → Sto → R Bool} {E : Sl → Sto → R D} (hc : X.calm = true) (hN : X.N.Nodup) (hi : PI X tg iter (tI (gx X cl) W I)) (ok : BlkOk X.N X.env.scope scope own)
    (hg : ∀ (s : Shared) (H : Hp) (C : Addr) (cls : List (Str × Addr)) (fp : List Addr), PG (X.blk s H scope (compEnvC scope cls C X.env) fp) tg g) (hgo : TgOk (gx X cl) t (own.map (·.2)) g)
    (ht : ∀ (s : Shared) (H : Hp) (C : Addr) (cls : List (Str × Addr)) (fp : List Addr), PTs (X.blk s H scope (compEnvC scope cls C X.env) fp) ifs (tT (gx X cl) W0 T))
    (hv : ∀ (s : Shared) (H : Hp) (C : Addr) (cls : List (Str × Addr)) (fp : List Addr), PE (X.blk s H scope (compEnvC scope cls C X.env) fp) elt (tF (gx X cl) W0 E)) (hyl : X.env.scope.names.lookup y = some .local := by rfl) (hy : X.N[i]? = some y := by rfl)
    (hsw : swapsWith (.ListComp elt [⟨tg, iter, ifs, 0⟩] scope pos) (some (.Name y py)) spos.line X.env = pure true := by exact sw_true rfl rfl rfl rfl) (hs : ∀ x, foldedSetIterable iter X.env x = pure x := by intro _; rfl) :
    PS X (.Assign [.Name y py] (.ListComp elt [⟨tg, iter, ifs, 0⟩] scope pos) spos) (tS (gx X cl) W (SAsg (FLc fuel I t T E (own.map (·.2))) (gN i))) :=
  s_setLc (ps_setLc hc hN hy hyl hsw hi ok hg ht hv hs) hgo
/-- f() -/
theorem f_call0 {k : Nat} {f : Addr} {m : DN} {x : Str} {p pos : Pos} (F : FnR X.prog X.w X.K X.mg X.base (L2.CX X.prog X.w) k f (spF (gx X cl) m)) (hr : Room k X.A) (tk : Takes X W) (hm : X.mg x = some (.ref f)) (hk : PySem.W.keepIn X.K (.ref f) = true)
    (hg : Gl X x := by rfl) (hdb : (x == ("__debug__" : Str)) = false := by decide) : PE X (.Call (.Name x p) [] [] pos) (tF (gx X cl) W (FB m ANil)) := by
  refine ⟨fun pins s σ H Q I ⟨ρ, σd, S, rel, o⟩ => ?_⟩
  refine wpAny_Call_Name_kw (ld_glob I hg hm ?_ hdb)
  exact PySem.W.callWith_K0 I.kIn hk (run_R (us := []) F hr tk I .nil ⟨ρ, [], S, rel.hp, rfl, out_we o⟩)
end
end Mi
set_option Elab.async false
set_option autoImplicit false
set_option linter.all false
set_option maxRecDepth 100000
set_option maxHeartbeats 4000000
namespace Mi
open PySem L2
/-! ### what is not looked at any more leaves the store -/
mutual
def clD (n : Nat) : D → Bool
  | .loc k => Nat.blt k n
  | .tup xs => clDs n xs
  | .fl xs => clDs n xs
  | .exc _ _ => false
  | .non => true
  | .bl _ => true
  | .int _ => true
  | .str _ => true
  | .cls _ => true
def clDs (n : Nat) : List D → Bool
  | [] => true
  | d :: ds => match clD n d with
    | true => clDs n ds
    | false => false
end
def clKs (n : Nat) : List (Key × D) → Bool
  | [] => true
  | p :: r => match clD n p.2 with
    | true => clKs n r
    | false => false
def clNs (n : Nat) : List (NestedKey × D × D) → Bool
  | [] => true
  | p :: r => match clD n p.2.1, clD n p.2.2 with
    | true, true => clNs n r
    | _, _ => false
def clO (n : Nat) : O → Bool
  | .lst xs => clDs n xs
  | .dct _ kvs => clKs n kvs
  | .ins _ ds => clDs n ds
  | .dtn _ kvs => clNs n kvs
def clSt (n : Nat) : Nat → Sto → Bool
  | 0, _ => true
  | _ + 1, [] => true
  | k + 1, o :: S => match clO n o with
    | true => clSt n k S
    | false => false
section
variable {G : Ct} {ρ m : List Addr} {H : Hp} {S : Sto}
mutual
theorem rv_cut : ∀ (d : D) (v : V), clD ρ.length d = true → RV G (ρ ++ m) H d v → RV G ρ H d v
  | .non, _, _, h | .bl _, _, _, h | .int _, _, _, h | .str _, _, _, h | .cls _, _, _, h => h
  | .exc _ _, _, c, _ => by cases c
  | .loc k, v, c, ⟨a, e, h⟩ => ⟨a, e, by
    have lt : k < ρ.length := Nat.blt_eq.mp c
    rw [List.getElem?_append_left lt] at h
    exact h⟩
  | .tup xs, v, c, ⟨a, vs, e, h1, h2⟩ => ⟨a, vs, e, h1, rvs_cut xs vs c h2⟩
  | .fl xs, v, c, ⟨a, vs, e, h1, h2⟩ => ⟨a, vs, e, h1, rvs_cut xs vs c h2⟩
theorem rvs_cut : ∀ (ds : List D) (vs : List V), clDs ρ.length ds = true → RVs G (ρ ++ m) H ds vs → RVs G ρ H ds vs
  | [], _, _, h => h
  | d :: ds, _, c, ⟨v, r, e, h1, h2⟩ => by
    unfold clDs at c
    cases hd : clD ρ.length d with
    | false => rw [hd] at c; cases c
    | true =>
      rw [hd] at c
      exact ⟨v, r, e, rv_cut d v hd h1, rvs_cut ds r c h2⟩
end
theorem rks_cut : ∀ {ps : List (Key × D)} {ks : List (Key × V)}, clKs ρ.length ps = true → RKs G (ρ ++ m) H ps ks → RKs G ρ H ps ks
  | [], _, _, h => h
  | p :: ps, _, c, ⟨v, r, e, h1, h2⟩ => by
    unfold clKs at c
    cases hd : clD ρ.length p.2 with
    | false => rw [hd] at c; cases c
    | true =>
      rw [hd] at c
      exact ⟨v, r, e, rv_cut _ v hd h1, rks_cut c h2⟩
theorem rns_cut : ∀ {ps : List (NestedKey × D × D)} {ks : List (NestedKey × Addr × Value)}, clNs ρ.length ps = true → RNs G (ρ ++ m) H ps ks → RNs G ρ H ps ks
  | [], _, _, h => h
  | p :: ps, _, c, ⟨b, u, v, r, e, h1, h2, h3, h4, h5, h6⟩ => by
    unfold clNs at c
    cases hd : clD ρ.length p.2.1 with
    | false => rw [hd] at c; cases c
    | true =>
      cases he : clD ρ.length p.2.2 with
      | false => rw [hd, he] at c; cases c
      | true =>
        rw [hd, he] at c
        exact ⟨b, u, v, r, e, h1, h2, rv_cut _ _ hd h3, rv_cut _ _ he h4, h5, rns_cut c h6⟩
theorem om_cut {a : Addr} {o : O} (c : clO ρ.length o = true) (h : OM G (ρ ++ m) H a o) : OM G ρ H a o := by
  match o, c, h with
  | .lst ds, c, ⟨vs, e1, h1⟩ => exact ⟨vs, e1, rvs_cut _ _ c h1⟩
  | .dct false kvs, c, ⟨ks, e1, h1⟩ => exact ⟨ks, e1, rks_cut c h1⟩
  | .dct true kvs, c, ⟨ks, o, e1, h1⟩ => exact ⟨ks, o, e1, rks_cut c h1⟩
  | .ins k ds, c, ⟨dx, vs, e1, h1, h2⟩ => exact ⟨dx, vs, e1, rvs_cut _ _ c h1, h2⟩
  | .dtn false kvs, c, ⟨P, w, xs, e0, e1, h1⟩ => exact ⟨P, w, xs, e0, e1, rns_cut c h1⟩
  | .dtn true kvs, c, ⟨P, w, xs, o, e0, e1, h1⟩ => exact ⟨P, w, xs, o, e0, e1, rns_cut c h1⟩
theorem clSt_at {n : Nat} : ∀ {k : Nat} {S : Sto} {i : Nat} {o : O}, clSt n k S = true → i < k → S[i]? = some o → clO n o = true
  | 0, _, _, _, _, l, _ => absurd l (Nat.not_lt_zero _)
  | _ + 1, [], _, _, _, _, e => by simp at e
  | k + 1, x :: S, i, o, c, l, e => by
    unfold clSt at c
    cases hx : clO n x with
    | false => rw [hx] at c; cases c
    | true =>
      rw [hx] at c
      cases i with
      | zero =>
        have : x = o := by simpa using e
        rw [← this]; exact hx
      | succ i => exact clSt_at c (Nat.lt_of_succ_lt_succ l) (by simpa using e)
theorem relH_cut (r : RelH G (ρ ++ m) H S) (c : clSt ρ.length ρ.length S = true) : RelH G ρ H (S.take ρ.length) := by
  have hl := r.len
  rw [List.length_append] at hl
  refine ⟨by rw [List.length_take]; omega, (List.nodup_append.mp r.nd).1, fun n a o h1 h2 => ?_⟩
  have lt : n < ρ.length := (List.getElem?_eq_some_iff.mp h1).1
  rw [List.getElem?_take_of_lt lt] at h2
  exact om_cut (clSt_at c lt h2) (r.obj n a o (by rw [List.getElem?_append_left lt]; exact h1) h2)
end
def gcR {α : Type} (f : Nat → α → Bool) (n : Nat) (r : R α) : R α := match r with
  | .ok d S => match f n d with
    | true => match clSt n n S with
      | true => .ok d (S.take n)
      | false => .ok d S
    | false => .ok d S
  | .ex c fs S => .ex c fs S
  | .bad => .bad
theorem out_gc {α β : Type} {G : Ct} {T : List Addr → Hp → α → β → Prop} {W : WX} {f : Nat → α → Bool} {ρ : List Addr} {σ : L2.St} {H : Hp} {Q : β → Hp → Prop} {r : R α} (hf : ∀ ρ m H d v, f ρ.length d = true → T (ρ ++ m) H d v → T ρ H d v) (o : Out G T W ρ σ H (gcR f ρ.length r) Q) : Out G T W ρ σ H r Q := by
  cases r with
  | bad => exact o
  | ex c fs S => exact o
  | ok d S =>
    unfold gcR at o
    dsimp only at o
    cases h1 : f ρ.length d with
    | false => rw [h1] at o; exact o
    | true =>
      rw [h1] at o
      dsimp only at o
      cases h2 : clSt ρ.length ρ.length S with
      | false => rw [h2] at o; exact o
      | true =>
        rw [h2] at o
        intro b H' ρ' e r t
        obtain ⟨m, rfl⟩ := e.pre
        exact o b H' ρ ⟨⟨[], by simp⟩, e.tup, e.frz, e.xd⟩ (relH_cut r h2) (hf _ _ _ _ _ h1 t)
def FGc (A : Sl → Sto → R D) : Sl → Sto → R D := fun σ S => gcR clD S.length (A σ S)
def TGc (A : Sl → Sto → R Bool) : Sl → Sto → R Bool := fun σ S => gcR (fun _ _ => true) S.length (A σ S)
section
variable {X : Cx} {cl : Cl} {W : WX} {e : Expr}
theorem f_gc {A : Sl → Sto → R D} (h : PE X e (tF (gx X cl) W A)) : PE X e (tF (gx X cl) W (FGc A)) := PE.imp h fun σ H Q ⟨ρ, σd, S, rel, o⟩ => by
  unfold FGc at o
  rw [← rel.hp.len] at o
  exact ⟨ρ, σd, S, rel, out_gc (fun _ _ _ _ _ c t => rv_cut _ _ c t) o⟩
theorem t_gc {A : Sl → Sto → R Bool} (h : PT X e (tT (gx X cl) W A)) : PT X e (tT (gx X cl) W (TGc A)) := PT.imp h fun σ H Q ⟨ρ, σd, S, rel, o⟩ => by
  unfold TGc at o
  rw [← rel.hp.len] at o
  exact ⟨ρ, σd, S, rel, out_gc (fun _ _ _ _ _ _ t => t) o⟩
end
end Mi
set_option Elab.async false
set_option autoImplicit false
set_option linter.all false
set_option maxRecDepth 100000
set_option maxHeartbeats 4000000
namespace K6
open PySem L2 Mi
def top (i : Nat) : Stmt := PySem.Challenge.pw_layermap_k06_known.main.body.getD i (.Pass ⟨0, 0, 0, 0⟩)
def clsAt (s : Stmt) (j : Nat) : Stmt := match s with
  | .ClassDef _ _ _ b _ _ _ _ _ _ _ => b.getD j (.Pass ⟨0, 0, 0, 0⟩)
  | _ => .Pass ⟨0, 0, 0, 0⟩
abbrev s_is_word : Stmt := top 10
abbrev s_is_integer : Stmt := top 9
abbrev s_is_hook : Stmt := top 11
abbrev s_is_layer : Stmt := top 12
abbrev s_are_layers : Stmt := top 13
abbrev s_is_held : Stmt := top 14
abbrev s_is_content : Stmt := top 16
abbrev s_are_contents : Stmt := top 17
abbrev s_columns_of : Stmt := top 48
abbrev s_Stack___init__ : Stmt := clsAt (top 49) 0
abbrev s_check_key : Stmt := top 46
abbrev s_is_deed : Stmt := top 19
abbrev s_is_base : Stmt := top 28
abbrev s_looks_down : Stmt := top 29
abbrev s_placed : Stmt := top 27
abbrev s_kept : Stmt := top 32
abbrev s_written : Stmt := top 34
abbrev s_hooked : Stmt := top 33
abbrev s_asked : Stmt := top 31
abbrev s_seen : Stmt := top 30
abbrev s_removed : Stmt := top 36
abbrev s_forgotten : Stmt := top 35
abbrev s_done : Stmt := top 25
abbrev s_Stack_column : Stmt := clsAt (top 49) 14
abbrev s_Stack__deed : Stmt := clsAt (top 49) 22
abbrev s_Stack_do : Stmt := clsAt (top 49) 18
abbrev s_Stack_of : Stmt := clsAt (top 49) 1
abbrev s_Stack___contains__ : Stmt := clsAt (top 49) 7
abbrev s_Stack___setitem__ : Stmt := clsAt (top 49) 9
abbrev s_Stack___getitem__ : Stmt := clsAt (top 49) 8
abbrev s_are_pairs : Stmt := top 15
abbrev s_Stack___ior__ : Stmt := clsAt (top 49) 10
abbrev s_Stack_held : Stmt := clsAt (top 49) 13
abbrev s_Stack_visible : Stmt := clsAt (top 49) 12
abbrev s_Stack_forget : Stmt := clsAt (top 49) 16
abbrev s__law_deeds_right : Stmt := top 80
abbrev s_Parts___len__ : Stmt := clsAt (top 55) 1
abbrev s_count_of_deeds : Stmt := top 59
abbrev s_check_stack : Stmt := top 47
abbrev s_check_both : Stmt := top 61
abbrev s_Stack_layers : Stmt := clsAt (top 49) 3
abbrev s_pair_after : Stmt := top 67
abbrev s_Parts___init__ : Stmt := clsAt (top 55) 0
abbrev s_Alike___init__ : Stmt := clsAt (top 54) 0
abbrev s_compared : Stmt := top 57
abbrev s_unheld_key : Stmt := top 66
abbrev s_first_pairs : Stmt := top 65
abbrev s_compared_deeds : Stmt := top 62
abbrev s_alike : Stmt := top 56
abbrev s_soonest : Stmt := top 58
abbrev s_Stack_plain : Stmt := clsAt (top 49) 2
abbrev s_flat : Stmt := top 50
abbrev s_is_flat : Stmt := top 60
abbrev s_are_deeds : Stmt := top 63
abbrev s_can_part : Stmt := top 64
abbrev s_done_in_turn : Stmt := top 26
abbrev s_last_answer : Stmt := top 70
abbrev s_Parts_shows : Stmt := clsAt (top 55) 3
abbrev s_is_column : Stmt := top 18
abbrev s_is_pair : Stmt := top 68
abbrev s_is_closed : Stmt := top 69
abbrev s_Alike_shows : Stmt := clsAt (top 54) 4
abbrev s_all_choices : Stmt := top 75
abbrev s_Stack__contents : Stmt := clsAt (top 49) 21
abbrev s_Stack_chosen : Stmt := clsAt (top 49) 20
abbrev s_Fewest___init__ : Stmt := clsAt (top 72) 0
abbrev s_fewest : Stmt := top 73
abbrev s__law_alike_right : Stmt := top 81
abbrev s_fewest_size : Stmt := top 74
abbrev s_is_choice : Stmt := top 76
abbrev s_are_fewer : Stmt := top 77
abbrev s_is_parted : Stmt := top 78
abbrev s_Fewest_shows : Stmt := clsAt (top 72) 3
abbrev s_Stack___eq__ : Stmt := clsAt (top 49) 4
abbrev s__law_fewest_right : Stmt := top 82
abbrev s__law_all_right : Stmt := top 83
abbrev s_law : Stmt := top 84
structure Ad where
  cl : Cl
  mc_Stack : Value
  mc_Alike : Value
  mc_Parts : Value
  mc_Fewest : Value
  a_is_word : Addr
  a_is_integer : Addr
  a_is_hook : Addr
  a_is_layer : Addr
  a_are_layers : Addr
  a_is_held : Addr
  a_is_content : Addr
  a_are_contents : Addr
  a_columns_of : Addr
  a_Stack___init__ : Addr
  a_check_key : Addr
  a_is_deed : Addr
  a_is_base : Addr
  a_looks_down : Addr
  a_placed : Addr
  a_kept : Addr
  a_written : Addr
  a_hooked : Addr
  a_asked : Addr
  a_seen : Addr
  a_removed : Addr
  a_forgotten : Addr
  a_done : Addr
  a_Stack_column : Addr
  a_Stack__deed : Addr
  a_Stack_do : Addr
  a_Stack_of : Addr
  a_Stack___contains__ : Addr
  a_Stack___setitem__ : Addr
  a_Stack___getitem__ : Addr
  a_are_pairs : Addr
  a_Stack___ior__ : Addr
  a_Stack_held : Addr
  a_Stack_visible : Addr
  a_Stack_forget : Addr
  a__law_deeds_right : Addr
  a_Parts___len__ : Addr
  a_count_of_deeds : Addr
  a_check_stack : Addr
  a_check_both : Addr
  a_Stack_layers : Addr
  a_pair_after : Addr
  a_Parts___init__ : Addr
  a_Alike___init__ : Addr
  a_compared : Addr
  a_unheld_key : Addr
  a_first_pairs : Addr
  a_compared_deeds : Addr
  a_alike : Addr
  a_soonest : Addr
  a_Stack_plain : Addr
  a_flat : Addr
  a_is_flat : Addr
  a_are_deeds : Addr
  a_can_part : Addr
  a_done_in_turn : Addr
  a_last_answer : Addr
  a_Parts_shows : Addr
  a_is_column : Addr
  a_is_pair : Addr
  a_is_closed : Addr
  a_Alike_shows : Addr
  a_all_choices : Addr
  a_Stack__contents : Addr
  a_Stack_chosen : Addr
  a_Fewest___init__ : Addr
  a_fewest : Addr
  a__law_alike_right : Addr
  a_fewest_size : Addr
  a_is_choice : Addr
  a_are_fewer : Addr
  a_is_parted : Addr
  a_Fewest_shows : Addr
  a_Stack___eq__ : Addr
  a__law_fewest_right : Addr
  a__law_all_right : Addr
  a_law : Addr
  p_Stack_of : Addr
  p_Stack_plain : Addr
  p_Stack_layers : Addr
structure At (K : PySem.W.Frag) (mg : Str → Option Value) (x : Str) (st : Stmt) (f : Addr) : Prop where
  ex : DefAt K mg x st f
theorem At.mg {K : PySem.W.Frag} {mg : Str → Option Value} {x : Str} {st : Stmt} {f : Addr} (a : At K mg x st f) : mg x = some (.ref f) := let ⟨_, _, h⟩ := a.ex; h
theorem At.kp {K : PySem.W.Frag} {mg : Str → Option Value} {x : Str} {st : Stmt} {f : Addr} (a : At K mg x st f) : PySem.W.keepIn K (.ref f) = true := let ⟨_, F, _⟩ := a.ex; F.kp
structure AtM (K : PySem.W.Frag) (x qual : Str) (st : Stmt) (f : Addr) : Prop where
  ex : ∃ fd, Fun K x qual st f fd
structure AtMK (K : PySem.W.Frag) (x qual : Str) (st : Stmt) (f : Addr) : Prop where
  ex : ∃ fd, FunD K x qual (defArgs st) (defBody st) (defScope st) [] [("shared", .bl true)] f fd
structure AtK (K : PySem.W.Frag) (mg : Str → Option Value) (x qual : Str) (st : Stmt) (f : Addr) : Prop extends AtMK K x qual st f where
  mg : mg x = some (.ref f)
theorem AtK.kp {K : PySem.W.Frag} {mg : Str → Option Value} {x q : Str} {st : Stmt} {f : Addr} (a : AtK K mg x q st f) : PySem.W.keepIn K (.ref f) = true := let ⟨_, F⟩ := a.ex; F.kp
structure Tx (P : Program) (w : World) (K : PySem.W.Frag) (mg : Str → Option Value) (A : Ad) : Prop where
  pw : A.cl.pw = some (P, w)
  d_law : At K mg "law" s_law A.a_law
  d__law_all_right : At K mg "_law_all_right" s__law_all_right A.a__law_all_right
  n_int : mg "int" = none
  n_sum : mg "sum" = none
  d__law_deeds_right : At K mg "_law_deeds_right" s__law_deeds_right A.a__law_deeds_right
  g_Stack : mg "Stack" = some (.ref (A.cl.cl 0))
  mk_Stack : Mk K (A.cl.cl 0) A.a_Stack___init__
  d_Stack___init__ : ∃ fd, FunD K "__init__" "Stack.__init__" (defArgs s_Stack___init__) (defBody s_Stack___init__) (defScope s_Stack___init__) [.non] [] A.a_Stack___init__ fd
  d_are_layers : At K mg "are_layers" s_are_layers A.a_are_layers
  n_isinstance : mg "isinstance" = none
  kC : ∀ c, ClsK K (A.cl.cl c)
  n_tuple : mg "tuple" = none
  k_tuple : ∀ c, PySem.W.kitOne K (.ref (A.cl.cl c)) (.type "tuple") = some false
  n_len : mg "len" = none
  c_MOST_LAYERS : GlobD ⟨K, A.cl⟩ mg "MOST_LAYERS" (.int 3)
  n_all : mg "all" = none
  d_is_layer : At K mg "is_layer" s_is_layer A.a_is_layer
  d_is_word : At K mg "is_word" s_is_word A.a_is_word
  n_str : mg "str" = none
  k_str : ∀ c, PySem.W.kitOne K (.ref (A.cl.cl c)) (.type "str") = some false
  c_WRITES : GlobD ⟨K, A.cl⟩ mg "WRITES" (.tup [(.str "here"), (.str "down"), (.str "both")])
  c_FORGETS : GlobD ⟨K, A.cl⟩ mg "FORGETS" (.tup [(.str "here"), (.str "hide"), (.str "down"), (.str "both")])
  c_READS : GlobD ⟨K, A.cl⟩ mg "READS" (.tup [(.str "look"), (.str "keep"), (.str "shut")])
  d_is_hook : At K mg "is_hook" s_is_hook A.a_is_hook
  c_HOOKS : GlobD ⟨K, A.cl⟩ mg "HOOKS" (.tup [(.str "told"), (.str "made")])
  d_is_integer : At K mg "is_integer" s_is_integer A.a_is_integer
  k_int : ∀ c, PySem.W.kitOne K (.ref (A.cl.cl c)) (.type "int") = some false
  n_bool : mg "bool" = none
  k_bool : ∀ c, PySem.W.kitOne K (.ref (A.cl.cl c)) (.type "bool") = some false
  d_are_contents : At K mg "are_contents" s_are_contents A.a_are_contents
  d_is_content : At K mg "is_content" s_is_content A.a_is_content
  n_dict : mg "dict" = none
  k_dict : ∀ c, PySem.W.kitOne K (.ref (A.cl.cl c)) (.type "dict") = some false
  d_is_held : At K mg "is_held" s_is_held A.a_is_held
  c_HIDDEN : GlobD ⟨K, A.cl⟩ mg "HIDDEN" (.str "hidden")
  f_Stack : ClsF K A.cl 0
  e_Stack : A.cl.fn 0 = ([("_layers" : Str), ("_columns" : Str)] : List Str)
  d_columns_of : At K mg "columns_of" s_columns_of A.a_columns_of
  n_sorted : mg "sorted" = none
  me_Stack_do : Meth K (A.cl.cl 0) "do" A.a_Stack_do
  d_Stack_do : AtM K "do" "Stack.do" s_Stack_do A.a_Stack_do
  d_check_key : At K mg "check_key" s_check_key A.a_check_key
  d_is_deed : At K mg "is_deed" s_is_deed A.a_is_deed
  c_BARE_DEEDS : GlobD ⟨K, A.cl⟩ mg "BARE_DEEDS" (.tup [(.str "ask"), (.str "has"), (.str "forget")])
  me_Stack__deed : Meth K (A.cl.cl 0) "_deed" A.a_Stack__deed
  d_Stack__deed : AtM K "_deed" "Stack._deed" s_Stack__deed A.a_Stack__deed
  d_done : At K mg "done" s_done A.a_done
  d_asked : At K mg "asked" s_asked A.a_asked
  d_looks_down : At K mg "looks_down" s_looks_down A.a_looks_down
  c_READ : GlobD ⟨K, A.cl⟩ mg "READ" (.int 2)
  d_is_base : At K mg "is_base" s_is_base A.a_is_base
  d_kept : At K mg "kept" s_kept A.a_kept
  d_placed : At K mg "placed" s_placed A.a_placed
  d_hooked : At K mg "hooked" s_hooked A.a_hooked
  c_HOOK : GlobD ⟨K, A.cl⟩ mg "HOOK" (.int 3)
  d_written : At K mg "written" s_written A.a_written
  c_WRITE : GlobD ⟨K, A.cl⟩ mg "WRITE" (.int 0)
  d_seen : At K mg "seen" s_seen A.a_seen
  d_forgotten : At K mg "forgotten" s_forgotten A.a_forgotten
  c_FORGET : GlobD ⟨K, A.cl⟩ mg "FORGET" (.int 1)
  d_removed : At K mg "removed" s_removed A.a_removed
  me_Stack_column : Meth K (A.cl.cl 0) "column" A.a_Stack_column
  d_Stack_column : AtM K "column" "Stack.column" s_Stack_column A.a_Stack_column
  cr_Stack : ClX.CRead K (A.cl.cl 0) A.mc_Stack
  cm_Stack_of : ClX.CMet K (A.cl.cl 0) A.mc_Stack "of" A.p_Stack_of A.a_Stack_of
  d_Stack_of : AtM K "of" "Stack.of" s_Stack_of A.a_Stack_of
  ow_Stack___contains__ : OwnDef K (A.cl.cl 0) "__contains__" A.a_Stack___contains__
  d_Stack___contains__ : AtM K "__contains__" "Stack.__contains__" s_Stack___contains__ A.a_Stack___contains__
  ow_Stack___setitem__ : OwnDef K (A.cl.cl 0) "__setitem__" A.a_Stack___setitem__
  nq_Stack : PySem.W.noSeq K (A.cl.cl 0) = true
  d_Stack___setitem__ : AtM K "__setitem__" "Stack.__setitem__" s_Stack___setitem__ A.a_Stack___setitem__
  ow_Stack___getitem__ : OwnDef K (A.cl.cl 0) "__getitem__" A.a_Stack___getitem__
  fi_Stack___getitem__ : PySem.W.fnIn K A.a_Stack___getitem__ = true
  d_Stack___getitem__ : AtM K "__getitem__" "Stack.__getitem__" s_Stack___getitem__ A.a_Stack___getitem__
  sf_Stack : PySem.W.selfFirst K (A.cl.cl 0) = true
  ow_Stack___ior__ : OwnDef K (A.cl.cl 0) "__ior__" A.a_Stack___ior__
  d_Stack___ior__ : AtM K "__ior__" "Stack.__ior__" s_Stack___ior__ A.a_Stack___ior__
  d_are_pairs : At K mg "are_pairs" s_are_pairs A.a_are_pairs
  me_Stack_visible : Meth K (A.cl.cl 0) "visible" A.a_Stack_visible
  d_Stack_visible : AtM K "visible" "Stack.visible" s_Stack_visible A.a_Stack_visible
  me_Stack_held : Meth K (A.cl.cl 0) "held" A.a_Stack_held
  d_Stack_held : AtM K "held" "Stack.held" s_Stack_held A.a_Stack_held
  n_list : mg "list" = none
  me_Stack_forget : Meth K (A.cl.cl 0) "forget" A.a_Stack_forget
  d_Stack_forget : AtM K "forget" "Stack.forget" s_Stack_forget A.a_Stack_forget
  d__law_alike_right : At K mg "_law_alike_right" s__law_alike_right A.a__law_alike_right
  d_soonest : AtK K mg "soonest" "soonest" s_soonest A.a_soonest
  d_count_of_deeds : At K mg "count_of_deeds" s_count_of_deeds A.a_count_of_deeds
  i_Parts : IsC K A.cl 4 2
  g_Parts : mg "Parts" = some (.ref (A.cl.cl 2))
  ow_Parts___len__ : OwnDef K (A.cl.cl 2) "__len__" A.a_Parts___len__
  d_Parts___len__ : AtM K "__len__" "Parts.__len__" s_Parts___len__ A.a_Parts___len__
  f_Parts : ClsF K A.cl 2
  e_Parts : A.cl.fn 2 = ([("key" : Str), ("deeds" : Str)] : List Str)
  d_alike : AtK K mg "alike" "alike" s_alike A.a_alike
  d_check_both : At K mg "check_both" s_check_both A.a_check_both
  d_check_stack : At K mg "check_stack" s_check_stack A.a_check_stack
  i_Stack : IsC K A.cl 4 0
  d_compared : At K mg "compared" s_compared A.a_compared
  d_pair_after : At K mg "pair_after" s_pair_after A.a_pair_after
  pr_Stack_layers : PropOf K (A.cl.cl 0) "layers" A.p_Stack_layers A.a_Stack_layers
  d_Stack_layers : AtM K "layers" "Stack.layers" s_Stack_layers A.a_Stack_layers
  mk_Parts : Mk K (A.cl.cl 2) A.a_Parts___init__
  d_Parts___init__ : AtM K "__init__" "Parts.__init__" s_Parts___init__ A.a_Parts___init__
  g_Alike : mg "Alike" = some (.ref (A.cl.cl 1))
  mk_Alike : Mk K (A.cl.cl 1) A.a_Alike___init__
  d_Alike___init__ : AtM K "__init__" "Alike.__init__" s_Alike___init__ A.a_Alike___init__
  f_Alike : ClsF K A.cl 1
  e_Alike : A.cl.fn 1 = ([("pairs" : Str)] : List Str)
  d_first_pairs : At K mg "first_pairs" s_first_pairs A.a_first_pairs
  n_set : mg "set" = none
  d_unheld_key : At K mg "unheld_key" s_unheld_key A.a_unheld_key
  d_compared_deeds : At K mg "compared_deeds" s_compared_deeds A.a_compared_deeds
  c_OWN_DEEDS : GlobD ⟨K, A.cl⟩ mg "OWN_DEEDS" (.tup [(.tup [(.str "ask")]), (.tup [(.str "has")]), (.tup [(.str "write"), (.int 0)]), (.tup [(.str "write"), (.int 1)]), (.tup [(.str "forget")])])
  c_SHARED_DEEDS : GlobD ⟨K, A.cl⟩ mg "SHARED_DEEDS" (.tup [(.tup [(.str "beneath"), (.int 0)]), (.tup [(.str "beneath"), (.int 1)]), (.tup [(.str "beneath"), .non])])
  d_is_flat : AtK K mg "is_flat" "is_flat" s_is_flat A.a_is_flat
  d_flat : At K mg "flat" s_flat A.a_flat
  cm_Stack_plain : ClX.CMet K (A.cl.cl 0) A.mc_Stack "plain" A.p_Stack_plain A.a_Stack_plain
  d_Stack_plain : AtM K "plain" "Stack.plain" s_Stack_plain A.a_Stack_plain
  c_PLAIN_LAYER : GlobD ⟨K, A.cl⟩ mg "PLAIN_LAYER" (.tup [(.str "here"), (.str "here"), (.str "look"), .non])
  me_Parts_shows : Meth K (A.cl.cl 2) "shows" A.a_Parts_shows
  d_Parts_shows : AtMK K "shows" "Parts.shows" s_Parts_shows A.a_Parts_shows
  d_can_part : At K mg "can_part" s_can_part A.a_can_part
  d_are_deeds : At K mg "are_deeds" s_are_deeds A.a_are_deeds
  d_last_answer : At K mg "last_answer" s_last_answer A.a_last_answer
  d_done_in_turn : At K mg "done_in_turn" s_done_in_turn A.a_done_in_turn
  n_any : mg "any" = none
  me_Alike_shows : Meth K (A.cl.cl 1) "shows" A.a_Alike_shows
  d_Alike_shows : AtMK K "shows" "Alike.shows" s_Alike_shows A.a_Alike_shows
  d_is_pair : At K mg "is_pair" s_is_pair A.a_is_pair
  d_is_column : At K mg "is_column" s_is_column A.a_is_column
  d_is_closed : At K mg "is_closed" s_is_closed A.a_is_closed
  f_Fewest : ClsF K A.cl 3
  e_Fewest : A.cl.fn 3 = ([("kept" : Str), ("pairs" : Str), ("parts" : Str)] : List Str)
  d_fewest : AtK K mg "fewest" "fewest" s_fewest A.a_fewest
  d_all_choices : At K mg "all_choices" s_all_choices A.a_all_choices
  n_range : mg "range" = none
  me_Stack_chosen : Meth K (A.cl.cl 0) "chosen" A.a_Stack_chosen
  d_Stack_chosen : AtM K "chosen" "Stack.chosen" s_Stack_chosen A.a_Stack_chosen
  me_Stack__contents : Meth K (A.cl.cl 0) "_contents" A.a_Stack__contents
  d_Stack__contents : AtM K "_contents" "Stack._contents" s_Stack__contents A.a_Stack__contents
  g_Fewest : mg "Fewest" = some (.ref (A.cl.cl 3))
  mk_Fewest : Mk K (A.cl.cl 3) A.a_Fewest___init__
  d_Fewest___init__ : AtM K "__init__" "Fewest.__init__" s_Fewest___init__ A.a_Fewest___init__
  d__law_fewest_right : At K mg "_law_fewest_right" s__law_fewest_right A.a__law_fewest_right
  d_fewest_size : AtK K mg "fewest_size" "fewest_size" s_fewest_size A.a_fewest_size
  me_Fewest_shows : Meth K (A.cl.cl 3) "shows" A.a_Fewest_shows
  d_Fewest_shows : AtMK K "shows" "Fewest.shows" s_Fewest_shows A.a_Fewest_shows
  d_is_choice : At K mg "is_choice" s_is_choice A.a_is_choice
  d_are_fewer : At K mg "are_fewer" s_are_fewer A.a_are_fewer
  d_is_parted : At K mg "is_parted" s_is_parted A.a_is_parted
  ow_Stack___eq__ : OwnDef K (A.cl.cl 0) "__eq__" A.a_Stack___eq__
  d_Stack___eq__ : AtM K "__eq__" "Stack.__eq__" s_Stack___eq__ A.a_Stack___eq__
end K6
set_option Elab.async false
set_option autoImplicit false
set_option linter.all false
set_option maxRecDepth 100000
set_option maxHeartbeats 4000000
namespace K6
open PySem L2 Mi
section
variable {P : Program} {w : World} {K : PySem.W.Frag} {mg : Str → Option Value} {base : Heap}
theorem sc_is_word : FnScope ["thing", "words"] ["thing", "words"] (defScope s_is_word) := ⟨rfl, rfl, rfl, by decide +kernel, rfl, by decide +kernel, by decide +kernel⟩
def b_is_word : Sl → Sto → RS := (SRet (FAnd (FIs .str (FVar 0)) (F2 (opIn false) (FVar 0) (FVar 1))))
def m_is_word : DN := mFn 2 2 b_is_word
theorem ok_is_word {A : Ad} (T : Tx P w K mg A) : FnR P w K mg base (L2.CX P w) 1 A.a_is_word (spF ⟨K, A.cl⟩ m_is_word) := by
  obtain ⟨fd, F, hm⟩ := T.d_is_word.ex
  have sc := sc_is_word
  refine fnr_of (fn_ok F sc (cl := A.cl) (B := b_is_word) fun cdv A2 outer s H E hr tk => ?_) (F.binds (ps := ["thing", "words"]) fun _ _ _ _ _ _ us hl => match us, hl with | [_, _], _ => by kernel_rfl)
  have hu := hr.units
  unfold b_is_word
  exact (ss_one (s_ret (f_and (f_is T.kC T.k_str T.n_isinstance T.n_str (f_var 0)) (f_one (f_cmp op_in_seq (o_in false) (f_var 0) (f_var 1) (by rfl))))))
theorem sc_is_integer : FnScope ["thing"] ["thing"] (defScope s_is_integer) := ⟨rfl, rfl, rfl, by decide +kernel, rfl, by decide +kernel, by decide +kernel⟩
def b_is_integer : Sl → Sto → RS := (SRet (FAnd (FIs .int (FVar 0)) (FNot (FIs .bool (FVar 0)))))
def m_is_integer : DN := mFn 1 1 b_is_integer
theorem ok_is_integer {A : Ad} (T : Tx P w K mg A) : FnR P w K mg base (L2.CX P w) 1 A.a_is_integer (spF ⟨K, A.cl⟩ m_is_integer) := by
  obtain ⟨fd, F, hm⟩ := T.d_is_integer.ex
  have sc := sc_is_integer
  refine fnr_of (fn_ok F sc (cl := A.cl) (B := b_is_integer) fun cdv A2 outer s H E hr tk => ?_) (F.binds (ps := ["thing"]) fun _ _ _ _ _ _ us hl => match us, hl with | [_], _ => by kernel_rfl)
  have hu := hr.units
  unfold b_is_integer
  exact (ss_one (s_ret (f_and (f_is T.kC T.k_int T.n_isinstance T.n_int (f_var 0)) (f_one (f_not (f_is T.kC T.k_bool T.n_isinstance T.n_bool (f_var 0)))))))
theorem sc_is_hook : FnScope ["thing", "word", "number"] ["thing"] (defScope s_is_hook) := ⟨rfl, rfl, rfl, by decide +kernel, rfl, by decide +kernel, by decide +kernel⟩
def b_is_hook : Sl → Sto → RS := (SSeq (SIf (TB (F2 (opIsN false) (FVar 0) (FC .non))) (SRet (FC (.bl true))) SNx) (SSeq (SIf (TOr (TNot (TB (FIs .tup (FVar 0)))) (TB (F2 (opEqB true) (FB fnLen (ACons (FVar 0) ANil)) (FC (.int 2))))) (SRet (FC (.bl false))) SNx) (SSeq (SAsg (FVar 0) (gT 2 [(gN 1), (gN 2)])) (SRet (FAnd (FB m_is_word (ACons (FVar 1) (ACons (FC (.tup [(.str "told"), (.str "made")])) ANil))) (FAnd (FB m_is_integer (ACons (FVar 2) ANil)) (F2 (opIn false) (FVar 2) (FTup (ACons (FC (.int 0)) (ACons (FC (.int 1)) ANil))))))))))
def m_is_hook : DN := mFn 1 3 b_is_hook
theorem ok_is_hook {A : Ad} (T : Tx P w K mg A) : FnR P w K mg base (L2.CX P w) 2 A.a_is_hook (spF ⟨K, A.cl⟩ m_is_hook) := by
  obtain ⟨fd, F, hm⟩ := T.d_is_hook.ex
  have sc := sc_is_hook
  refine fnr_of (fn_ok F sc (cl := A.cl) (B := b_is_hook) fun cdv A2 outer s H E hr tk => ?_) (F.binds (ps := ["thing"]) fun _ _ _ _ _ _ us hl => match us, hl with | [_], _ => by kernel_rfl)
  have hu := hr.units
  unfold b_is_hook
  exact (ss_cons (s_if (t_cmp op_isN o_isN (f_var 0) f_non (nomark _)) (ss_one (s_ret f_bl)) ss_nil) (ss_cons (s_if (PW.pt (w_or (t_not (t_val (f_is T.kC T.k_tuple T.n_isinstance T.n_tuple (f_var 0)))) (w_or1 (t_cmp (op_neD hu) o_ne (f_callB call_len2 n_len T.n_len (a_cons (f_var 0) a_nil)) f_int (nomark _))))) (ss_one (s_ret f_bl)) ss_nil) (ss_cons (s_asg (f_var 0) (g_tup rfl (gs_cons (g_name (i := 1) sc.nd) (gs_cons (g_name (i := 2) sc.nd) gs_nil))) nx_tup) (ss_one (s_ret (f_and (f_call (ok_is_word T) (hr.mono (by decide)) tk T.d_is_word.mg T.d_is_word.kp (a_cons (f_var 1) (a_cons (f_globD T.c_HOOKS) a_nil))) (f_and (f_call (ok_is_integer T) (hr.mono (by decide)) tk T.d_is_integer.mg T.d_is_integer.kp (a_cons (f_var 2) a_nil)) (f_one (f_cmp op_in_seq (o_in false) (f_var 2) (f_tup (a_cons f_int (a_cons f_int a_nil))) (by rfl))))))))))
theorem sc_is_layer : FnScope ["thing", "write", "forget", "read", "hook"] ["thing"] (defScope s_is_layer) := ⟨rfl, rfl, rfl, by decide +kernel, rfl, by decide +kernel, by decide +kernel⟩
def b_is_layer : Sl → Sto → RS := (SSeq (SIf (TOr (TNot (TB (FIs .tup (FVar 0)))) (TB (F2 (opEqB true) (FB fnLen (ACons (FVar 0) ANil)) (FC (.int 4))))) (SRet (FC (.bl false))) SNx) (SSeq (SAsg (FVar 0) (gT 4 [(gN 1), (gN 2), (gN 3), (gN 4)])) (SRet (FAnd (FB m_is_word (ACons (FVar 1) (ACons (FC (.tup [(.str "here"), (.str "down"), (.str "both")])) ANil))) (FAnd (FB m_is_word (ACons (FVar 2) (ACons (FC (.tup [(.str "here"), (.str "hide"), (.str "down"), (.str "both")])) ANil))) (FAnd (FB m_is_word (ACons (FVar 3) (ACons (FC (.tup [(.str "look"), (.str "keep"), (.str "shut")])) ANil))) (FB m_is_hook (ACons (FVar 4) ANil))))))))
def m_is_layer : DN := mFn 1 5 b_is_layer
theorem ok_is_layer {A : Ad} (T : Tx P w K mg A) : FnR P w K mg base (L2.CX P w) 3 A.a_is_layer (spF ⟨K, A.cl⟩ m_is_layer) := by
  obtain ⟨fd, F, hm⟩ := T.d_is_layer.ex
  have sc := sc_is_layer
  refine fnr_of (fn_ok F sc (cl := A.cl) (B := b_is_layer) fun cdv A2 outer s H E hr tk => ?_) (F.binds (ps := ["thing"]) fun _ _ _ _ _ _ us hl => match us, hl with | [_], _ => by kernel_rfl)
  have hu := hr.units
  unfold b_is_layer
  exact (ss_cons (s_if (PW.pt (w_or (t_not (t_val (f_is T.kC T.k_tuple T.n_isinstance T.n_tuple (f_var 0)))) (w_or1 (t_cmp (op_neD hu) o_ne (f_callB call_len2 n_len T.n_len (a_cons (f_var 0) a_nil)) f_int (nomark _))))) (ss_one (s_ret f_bl)) ss_nil) (ss_cons (s_asg (f_var 0) (g_tup rfl (gs_cons (g_name (i := 1) sc.nd) (gs_cons (g_name (i := 2) sc.nd) (gs_cons (g_name (i := 3) sc.nd) (gs_cons (g_name (i := 4) sc.nd) gs_nil))))) nx_tup) (ss_one (s_ret (f_and (f_call (ok_is_word T) (hr.mono (by decide)) tk T.d_is_word.mg T.d_is_word.kp (a_cons (f_var 1) (a_cons (f_globD T.c_WRITES) a_nil))) (f_and (f_call (ok_is_word T) (hr.mono (by decide)) tk T.d_is_word.mg T.d_is_word.kp (a_cons (f_var 2) (a_cons (f_globD T.c_FORGETS) a_nil))) (f_and (f_call (ok_is_word T) (hr.mono (by decide)) tk T.d_is_word.mg T.d_is_word.kp (a_cons (f_var 3) (a_cons (f_globD T.c_READS) a_nil))) (f_one (f_call (ok_is_hook T) (hr.mono (by decide)) tk T.d_is_hook.mg T.d_is_hook.kp (a_cons (f_var 4) a_nil))))))))))
theorem sc_are_layers : FnScope ["thing", "layer"] ["thing"] (defScope s_are_layers) := ⟨rfl, rfl, rfl, by decide +kernel, rfl, by decide +kernel, by decide +kernel⟩
def b_are_layers : Sl → Sto → RS := (SSeq (SIf (TOr (TNot (TB (FIs .tup (FVar 0)))) (TNot (TB (FCh (cmpI (fun i j => decide (i ≤ j))) (cmpI (fun i j => decide (i ≤ j))) (FC (.int 1)) (FB fnLen (ACons (FVar 0) ANil)) (FC (.int 3)))))) (SRet (FC (.bl false))) SNx) (SRet (FB fnAll (ACons (FLc 300 (ITu (FVar 0)) (.one 1) TYes (FB m_is_layer (ACons (FVar 1) ANil)) [1]) ANil))))
def m_are_layers : DN := mFn 1 2 b_are_layers
theorem ok_are_layers {A : Ad} (T : Tx P w K mg A) : FnR P w K mg base (L2.CX P w) 4 A.a_are_layers (spF ⟨K, A.cl⟩ m_are_layers) := by
  obtain ⟨fd, F, hm⟩ := T.d_are_layers.ex
  have sc := sc_are_layers
  refine fnr_of (fn_ok F sc (cl := A.cl) (B := b_are_layers) fun cdv A2 outer s H E hr tk => ?_) (F.binds (ps := ["thing"]) fun _ _ _ _ _ _ us hl => match us, hl with | [_], _ => by kernel_rfl)
  have hu := hr.units
  unfold b_are_layers
  exact (ss_cons (s_if (PW.pt (w_or (t_not (t_val (f_is T.kC T.k_tuple T.n_isinstance T.n_tuple (f_var 0)))) (w_or1 (t_not (t_chain op_le (o_cmpI (fun i j => decide (i ≤ j))) op_le (o_cmpI (fun i j => decide (i ≤ j))) f_int (f_callB call_len2 n_len T.n_len (a_cons (f_var 0) a_nil)) (f_globD T.c_MOST_LAYERS)))))) (ss_one (s_ret f_bl)) ss_nil) (ss_one (s_ret (f_callB (cr_all rfl) n_all T.n_all (a_cons (f_lc (fuel := 300) (t := (.one 1)) (own := [("layer", 1)]) rfl sc.nd (i_tup (f_var 0)) (blkOk_by (N := ["thing", "layer"]) (sc := defScope s_are_layers) (by decide +kernel)) (fun _ _ _ _ _ => (pg_name sc.nd rfl (by first | exact Or.inl rfl | exact Or.inr rfl) (by first | exact Or.inl rfl | exact Or.inr rfl))) (tg_one (by decide)) (fun _ _ _ _ _ => ts_nil) (fun _ _ _ _ _ => (f_call (ok_is_layer T) (hr.mono (by decide)) tk0 T.d_is_layer.mg T.d_is_layer.kp (a_cons (f_var 1) a_nil)))) a_nil)))))
theorem sc_is_held : FnScope ["thing"] ["thing"] (defScope s_is_held) := ⟨rfl, rfl, rfl, by decide +kernel, rfl, by decide +kernel, by decide +kernel⟩
def b_is_held : Sl → Sto → RS := (SRet (FOr (FB m_is_integer (ACons (FVar 0) ANil)) (FB m_is_word (ACons (FVar 0) (ACons (FTup (ACons (FC (.str "hidden")) ANil)) ANil)))))
def m_is_held : DN := mFn 1 1 b_is_held
theorem ok_is_held {A : Ad} (T : Tx P w K mg A) : FnR P w K mg base (L2.CX P w) 2 A.a_is_held (spF ⟨K, A.cl⟩ m_is_held) := by
  obtain ⟨fd, F, hm⟩ := T.d_is_held.ex
  have sc := sc_is_held
  refine fnr_of (fn_ok F sc (cl := A.cl) (B := b_is_held) fun cdv A2 outer s H E hr tk => ?_) (F.binds (ps := ["thing"]) fun _ _ _ _ _ _ us hl => match us, hl with | [_], _ => by kernel_rfl)
  have hu := hr.units
  unfold b_is_held
  exact (ss_one (s_ret (f_or (f_call (ok_is_integer T) (hr.mono (by decide)) tk T.d_is_integer.mg T.d_is_integer.kp (a_cons (f_var 0) a_nil)) (f_one (f_call (ok_is_word T) (hr.mono (by decide)) tk T.d_is_word.mg T.d_is_word.kp (a_cons (f_var 0) (a_cons (f_tup (a_cons (f_globD T.c_HIDDEN) a_nil)) a_nil)))))))
theorem sc_is_content : FnScope ["thing", "key", "held"] ["thing"] (defScope s_is_content) := ⟨rfl, rfl, rfl, by decide +kernel, rfl, by decide +kernel, by decide +kernel⟩
def b_is_content : Sl → Sto → RS := (SSeq (SIf (TNot (TB (FIs .dct (FVar 0)))) (SRet (FC (.bl false))) SNx) (SRet (FB fnAll (ACons (FLock 0 (FLc 300 (IIt (FVar 0)) (.two 1 2) TYes (FAnd (FB m_is_integer (ACons (FVar 1) ANil)) (FB m_is_held (ACons (FVar 2) ANil))) [1, 2])) ANil))))
def m_is_content : DN := mFn 1 3 b_is_content
theorem ok_is_content {A : Ad} (T : Tx P w K mg A) : FnR P w K mg base (L2.CX P w) 3 A.a_is_content (spF ⟨K, A.cl⟩ m_is_content) := by
  obtain ⟨fd, F, hm⟩ := T.d_is_content.ex
  have sc := sc_is_content
  refine fnr_of (fn_ok F sc (cl := A.cl) (B := b_is_content) fun cdv A2 outer s H E hr tk => ?_) (F.binds (ps := ["thing"]) fun _ _ _ _ _ _ us hl => match us, hl with | [_], _ => by kernel_rfl)
  have hu := hr.units
  unfold b_is_content
  exact (ss_cons (s_if (t_not (t_val (f_is T.kC T.k_dict T.n_isinstance T.n_dict (f_var 0)))) (ss_one (s_ret f_bl)) ss_nil) (ss_one (s_ret (f_callB (cr_all rfl) n_all T.n_all (a_cons (f_lock (i := 0) (f_lc (fuel := 300) (t := (.two 1 2)) (own := [("key", 1), ("held", 2)]) rfl sc.nd (j_items (f_var 0)) (blkOk_by (N := ["thing", "key", "held"]) (sc := defScope s_is_content) (by decide +kernel)) (fun _ _ _ _ _ => (pg_tup rfl (pgs_cons (pg_name sc.nd rfl (by first | exact Or.inl rfl | exact Or.inr rfl) (by first | exact Or.inl rfl | exact Or.inr rfl)) (pgs_cons (pg_name sc.nd rfl (by first | exact Or.inl rfl | exact Or.inr rfl) (by first | exact Or.inl rfl | exact Or.inr rfl)) pgs_nil rfl) rfl) rfl rfl)) (tg_two (by decide) (by decide)) (fun _ _ _ _ _ => ts_nil) (fun _ _ _ _ _ => (f_and (f_call (ok_is_integer T) (hr.mono (by decide)) tk0 T.d_is_integer.mg T.d_is_integer.kp (a_cons (f_var 1) a_nil)) (f_one (f_call (ok_is_held T) (hr.mono (by decide)) tk0 T.d_is_held.mg T.d_is_held.kp (a_cons (f_var 2) a_nil))))))) a_nil)))))
theorem sc_are_contents : FnScope ["thing", "count", "content"] ["thing", "count"] (defScope s_are_contents) := ⟨rfl, rfl, rfl, by decide +kernel, rfl, by decide +kernel, by decide +kernel⟩
def b_are_contents : Sl → Sto → RS := (SSeq (SIf (TOr (TNot (TB (FIs .tup (FVar 0)))) (TB (F2 (opEqB true) (FB fnLen (ACons (FVar 0) ANil)) (FVar 1)))) (SRet (FC (.bl false))) SNx) (SRet (FB fnAll (ACons (FLc 300 (ITu (FVar 0)) (.one 2) TYes (FB m_is_content (ACons (FVar 2) ANil)) [2]) ANil))))
def m_are_contents : DN := mFn 2 3 b_are_contents
theorem ok_are_contents {A : Ad} (T : Tx P w K mg A) : FnR P w K mg base (L2.CX P w) 4 A.a_are_contents (spF ⟨K, A.cl⟩ m_are_contents) := by
  obtain ⟨fd, F, hm⟩ := T.d_are_contents.ex
  have sc := sc_are_contents
  refine fnr_of (fn_ok F sc (cl := A.cl) (B := b_are_contents) fun cdv A2 outer s H E hr tk => ?_) (F.binds (ps := ["thing", "count"]) fun _ _ _ _ _ _ us hl => match us, hl with | [_, _], _ => by kernel_rfl)
  have hu := hr.units
  unfold b_are_contents
  exact (ss_cons (s_if (PW.pt (w_or (t_not (t_val (f_is T.kC T.k_tuple T.n_isinstance T.n_tuple (f_var 0)))) (w_or1 (t_cmp (op_neD hu) o_ne (f_callB call_len2 n_len T.n_len (a_cons (f_var 0) a_nil)) (f_var 1) (nomark _))))) (ss_one (s_ret f_bl)) ss_nil) (ss_one (s_ret (f_callB (cr_all rfl) n_all T.n_all (a_cons (f_lc (fuel := 300) (t := (.one 2)) (own := [("content", 2)]) rfl sc.nd (i_tup (f_var 0)) (blkOk_by (N := ["thing", "count", "content"]) (sc := defScope s_are_contents) (by decide +kernel)) (fun _ _ _ _ _ => (pg_name sc.nd rfl (by first | exact Or.inl rfl | exact Or.inr rfl) (by first | exact Or.inl rfl | exact Or.inr rfl))) (tg_one (by decide)) (fun _ _ _ _ _ => ts_nil) (fun _ _ _ _ _ => (f_call (ok_is_content T) (hr.mono (by decide)) tk0 T.d_is_content.mg T.d_is_content.kp (a_cons (f_var 2) a_nil)))) a_nil)))))
theorem sc_columns_of : FnScope ["contents", "found", "key", "content"] ["contents"] (defScope s_columns_of) := ⟨rfl, rfl, rfl, by decide +kernel, rfl, by decide +kernel, by decide +kernel⟩
def b_columns_of : Sl → Sto → RS := (SSeq (SAsg (FSs 3 2 (FVar 0)) (gN 1)) (SRet (FDc 300 (ILs (FVar 1)) (.one 2) TYes (FVar 2) (FB fnTuple (ACons (FLc 300 (ITu (FVar 0)) (.one 3) TYes (FDGet1 (FVar 3) (FVar 2)) [3]) ANil)) [2])))
def m_columns_of : DN := mFn 1 4 b_columns_of
theorem ok_columns_of {A : Ad} (T : Tx P w K mg A) : FnR P w K mg base (L2.CX P w) 1 A.a_columns_of (spF ⟨K, A.cl⟩ m_columns_of) := by
  obtain ⟨fd, F, hm⟩ := T.d_columns_of.ex
  have sc := sc_columns_of
  refine fnr_of (fn_ok F sc (cl := A.cl) (B := b_columns_of) fun cdv A2 outer s H E hr tk => ?_) (F.binds (ps := ["contents"]) fun _ _ _ _ _ _ us hl => match us, hl with | [_], _ => by kernel_rfl)
  have hu := hr.units
  unfold b_columns_of
  exact (ss_cons (s_set (i := 1) sc.nd (f_ss (j0 := 3) (j1 := 2) (own := [("content", 3), ("key", 2)]) rfl sc.nd (f_var 0) T.n_sorted (blkOk_by (N := ["contents", "found", "key", "content"]) (sc := defScope s_columns_of) (by decide +kernel)) rfl rfl (by decide) (by decide) (by decide) (fun _ _ => by first | exact Or.inl rfl | exact Or.inr (Or.inl rfl) | exact Or.inr (Or.inr rfl)) (fun _ _ => by first | exact Or.inl rfl | exact Or.inr (Or.inl rfl) | exact Or.inr (Or.inr rfl)) (fun _ _ => by first | exact Or.inl rfl | exact Or.inr rfl) (fun _ _ => by first | exact Or.inl rfl | exact Or.inr rfl) (fun _ _ => by rfl) (fun _ _ => by rfl) (by decide) (by decide) (by decide) (by decide))) (ss_one (s_ret (f_dc (fuel := 300) (t := (.one 2)) (own := [("key", 2)]) rfl sc.nd (j_list (f_var 1)) (blkOk_by (N := ["contents", "found", "key", "content"]) (sc := defScope s_columns_of) (by decide +kernel)) (fun _ _ _ _ _ => (pg_name sc.nd rfl (by first | exact Or.inl rfl | exact Or.inr rfl) (by first | exact Or.inl rfl | exact Or.inr rfl))) (tg_one (by decide)) (fun _ _ _ _ _ => ts_nil) (fun _ _ _ _ _ => (f_var 2)) (fun _ _ _ _ _ => (f_callTy call_tuple_of n_tuple T.n_tuple (a_cons (f_lc (fuel := 300) (t := (.one 3)) (own := [("content", 3)]) rfl sc.nd (i_tup (f_var 0)) (blkOk_by (by rfl)) (fun _ _ _ _ _ => (pg_name sc.nd rfl (by first | exact Or.inl rfl | exact Or.inr rfl) (by first | exact Or.inl rfl | exact Or.inr rfl))) (tg_one (by decide)) (fun _ _ _ _ _ => ts_nil) (fun _ _ _ _ _ => (f_dget1 (hu1 hr) (f_var 3) (f_var 2)))) a_nil)))))))
theorem sc_Stack___init__ : FnScope ["self", "layers", "contents"] ["self", "layers", "contents"] (defScope s_Stack___init__) := ⟨rfl, rfl, rfl, by decide +kernel, rfl, by decide +kernel, by decide +kernel⟩
def b_Stack___init__ : Sl → Sto → RS := (SSeq (SIf (TNot (TB (FB m_are_layers (ACons (FVar 1) ANil)))) (fun _ _ => .bad) SNx) (SSeq (SIf (TB (F2 (opIsN false) (FVar 2) (FC .non))) (SAsg (F2 opMulX (FTup (ACons (fun _ S => newDct S) ANil)) (FB fnLen (ACons (FVar 1) ANil))) (gN 2)) SNx) (SSeq (SIf (TNot (TB (FB m_are_contents (ACons (FVar 2) (ACons (FB fnLen (ACons (FVar 1) ANil)) ANil))))) (fun _ _ => .bad) SNx) (SSeq (SFld 0 0 (FVar 0) (FVar 1)) (SFld 0 1 (FVar 0) (FB m_columns_of (ACons (FVar 2) ANil)))))))
def m_Stack___init__ : DN := mDef (["self", "layers", "contents"] : List Str).length .non (mFn (["self", "layers", "contents"] : List Str).length (["self", "layers", "contents"] : List Str).length b_Stack___init__)
theorem ok_Stack___init__ {A : Ad} (T : Tx P w K mg A) : FnR P w K mg base (L2.CX P w) 5 A.a_Stack___init__ (spF ⟨K, A.cl⟩ m_Stack___init__) := by
  obtain ⟨fd, F⟩ := T.d_Stack___init__
  have sc := sc_Stack___init__
  have F1 : FnOk P w K mg base (L2.CX P w) 5 A.a_Stack___init__ fd ["self", "layers", "contents"] (spF ⟨K, A.cl⟩ (mFn (["self", "layers", "contents"] : List Str).length (["self", "layers", "contents"] : List Str).length b_Stack___init__)) := by
    refine fn_okD (x := "__init__") (qual := "Stack.__init__") (st := s_Stack___init__) (dvs := [.non]) (N := ["self", "layers", "contents"]) (ps := ["self", "layers", "contents"]) (k := 4) F sc (cl := A.cl) (B := b_Stack___init__) fun cdv A2 outer s H E hr tk => ?_
    have hu := hr.units
    unfold b_Stack___init__
    exact (ss_cons (s_if (t_not (t_val (f_call (ok_are_layers T) (hr.mono (by decide)) tk T.d_are_layers.mg T.d_are_layers.kp (a_cons (f_var 1) a_nil)))) (ss_one s_never) ss_nil) (ss_cons (s_if (t_cmp op_isN o_isN (f_var 2) f_non (nomark _)) (ss_one (s_set (i := 2) sc.nd (f_op op_mulX o_mulX (f_tup (a_cons f_dnew a_nil)) (f_callB call_len2 n_len T.n_len (a_cons (f_var 1) a_nil))))) ss_nil) (ss_cons (s_if (t_not (t_val (f_call (ok_are_contents T) (hr.mono (by decide)) tk T.d_are_contents.mg T.d_are_contents.kp (a_cons (f_var 2) (a_cons (f_callB call_len2 n_len T.n_len (a_cons (f_var 1) a_nil)) a_nil))))) (ss_one s_never) ss_nil) (ss_cons (s_fld (i := 0) T.f_Stack (f_var 0) (f_var 1) (by rw [T.e_Stack]; rfl)) (ss_one (s_fld (i := 1) T.f_Stack (f_var 0) (f_call (ok_columns_of T) (hr.mono (by decide)) tk T.d_columns_of.mg T.d_columns_of.kp (a_cons (f_var 2) a_nil)) (by rw [T.e_Stack]; rfl)))))))
  exact fnr_dflt (ps := ["self", "layers", "contents"]) (d := .non) (v := .non) F1 (F.binds1 3 1 (by simp) rfl fun _ _ _ _ _ _ _ us its hl h1 => match us, hl, its, h1 with | [_, _, _], _, [_], _ => ⟨_, rfl, by kernel_rfl⟩) (F.binds1 2 0 (by simp) rfl fun _ _ _ _ _ _ _ us its hl h1 => match us, hl, its, h1 with | [_, _], _, [_], _ => ⟨_, rfl, by kernel_rfl⟩) (fun _ _ => rfl)
theorem sc_check_key : FnScope ["key"] ["key"] (defScope s_check_key) := ⟨rfl, rfl, rfl, by decide +kernel, rfl, by decide +kernel, by decide +kernel⟩
def b_check_key : Sl → Sto → RS := (SIf (TNot (TB (FB m_is_integer (ACons (FVar 0) ANil)))) (fun _ _ => .bad) SNx)
def m_check_key : DN := mFn 1 1 b_check_key
theorem ok_check_key {A : Ad} (T : Tx P w K mg A) : FnR P w K mg base (L2.CX P w) 2 A.a_check_key (spF ⟨K, A.cl⟩ m_check_key) := by
  obtain ⟨fd, F, hm⟩ := T.d_check_key.ex
  have sc := sc_check_key
  refine fnr_of (fn_ok F sc (cl := A.cl) (B := b_check_key) fun cdv A2 outer s H E hr tk => ?_) (F.binds (ps := ["key"]) fun _ _ _ _ _ _ us hl => match us, hl with | [_], _ => by kernel_rfl)
  have hu := hr.units
  unfold b_check_key
  exact (ss_one (s_if (t_not (t_val (f_call (ok_is_integer T) (hr.mono (by decide)) tk T.d_is_integer.mg T.d_is_integer.kp (a_cons (f_var 0) a_nil)))) (ss_one s_never) ss_nil))
theorem sc_is_deed : FnScope ["thing", "word", "value"] ["thing"] (defScope s_is_deed) := ⟨rfl, rfl, rfl, by decide +kernel, rfl, by decide +kernel, by decide +kernel⟩
def b_is_deed : Sl → Sto → RS := (SSeq (SIf (TOr (TNot (TB (FIs .tup (FVar 0)))) (TNot (TB (FCh (cmpI (fun i j => decide (i ≤ j))) (cmpI (fun i j => decide (i ≤ j))) (FC (.int 1)) (FB fnLen (ACons (FVar 0) ANil)) (FC (.int 2)))))) (SRet (FC (.bl false))) SNx) (SSeq (SIf (TB (F2 (opEqB false) (FB fnLen (ACons (FVar 0) ANil)) (FC (.int 1)))) (SRet (FB m_is_word (ACons (F2 opIx (FVar 0) (FC (.int 0))) (ACons (FC (.tup [(.str "ask"), (.str "has"), (.str "forget")])) ANil)))) SNx) (SSeq (SAsg (FVar 0) (gT 2 [(gN 1), (gN 2)])) (SSeq (SIf (TB (FB m_is_word (ACons (FVar 1) (ACons (FTup (ACons (FC (.str "write")) ANil)) ANil)))) (SRet (FB m_is_integer (ACons (FVar 2) ANil))) SNx) (SRet (FAnd (FB m_is_word (ACons (FVar 1) (ACons (FTup (ACons (FC (.str "beneath")) ANil)) ANil))) (FOr (F2 (opIsN false) (FVar 2) (FC .non)) (FB m_is_integer (ACons (FVar 2) ANil)))))))))
def m_is_deed : DN := mFn 1 3 b_is_deed
theorem ok_is_deed {A : Ad} (T : Tx P w K mg A) : FnR P w K mg base (L2.CX P w) 2 A.a_is_deed (spF ⟨K, A.cl⟩ m_is_deed) := by
  obtain ⟨fd, F, hm⟩ := T.d_is_deed.ex
  have sc := sc_is_deed
  refine fnr_of (fn_ok F sc (cl := A.cl) (B := b_is_deed) fun cdv A2 outer s H E hr tk => ?_) (F.binds (ps := ["thing"]) fun _ _ _ _ _ _ us hl => match us, hl with | [_], _ => by kernel_rfl)
  have hu := hr.units
  unfold b_is_deed
  exact (ss_cons (s_if (PW.pt (w_or (t_not (t_val (f_is T.kC T.k_tuple T.n_isinstance T.n_tuple (f_var 0)))) (w_or1 (t_not (t_chain op_le (o_cmpI (fun i j => decide (i ≤ j))) op_le (o_cmpI (fun i j => decide (i ≤ j))) f_int (f_callB call_len2 n_len T.n_len (a_cons (f_var 0) a_nil)) f_int))))) (ss_one (s_ret f_bl)) ss_nil) (ss_cons (s_if (t_cmp (op_eqD hu) o_eq (f_callB call_len2 n_len T.n_len (a_cons (f_var 0) a_nil)) f_int (nomark _)) (ss_one (s_ret (f_call (ok_is_word T) (hr.mono (by decide)) tk T.d_is_word.mg T.d_is_word.kp (a_cons (f_ix (f_var 0) f_int) (a_cons (f_globD T.c_BARE_DEEDS) a_nil))))) ss_nil) (ss_cons (s_asg (f_var 0) (g_tup rfl (gs_cons (g_name (i := 1) sc.nd) (gs_cons (g_name (i := 2) sc.nd) gs_nil))) nx_tup) (ss_cons (s_if (t_val (f_call (ok_is_word T) (hr.mono (by decide)) tk T.d_is_word.mg T.d_is_word.kp (a_cons (f_var 1) (a_cons (f_tup (a_cons f_str a_nil)) a_nil)))) (ss_one (s_ret (f_call (ok_is_integer T) (hr.mono (by decide)) tk T.d_is_integer.mg T.d_is_integer.kp (a_cons (f_var 2) a_nil)))) ss_nil) (ss_one (s_ret (f_and (f_call (ok_is_word T) (hr.mono (by decide)) tk T.d_is_word.mg T.d_is_word.kp (a_cons (f_var 1) (a_cons (f_tup (a_cons f_str a_nil)) a_nil))) (f_one (f_or (f_cmp op_isN o_isN (f_var 2) f_non (nomark _)) (f_one (f_call (ok_is_integer T) (hr.mono (by decide)) tk T.d_is_integer.mg T.d_is_integer.kp (a_cons (f_var 2) a_nil))))))))))))
theorem sc_is_base : FnScope ["column", "at"] ["column", "at"] (defScope s_is_base) := ⟨rfl, rfl, rfl, by decide +kernel, rfl, by decide +kernel, by decide +kernel⟩
def b_is_base : Sl → Sto → RS := (SRet (F2 (opEqB false) (FVar 1) (F2 opSub (FB fnLen (ACons (FVar 0) ANil)) (FC (.int 1)))))
def m_is_base : DN := mFn 2 2 b_is_base
theorem ok_is_base {A : Ad} (T : Tx P w K mg A) : FnR P w K mg base (L2.CX P w) 1 A.a_is_base (spF ⟨K, A.cl⟩ m_is_base) := by
  obtain ⟨fd, F, hm⟩ := T.d_is_base.ex
  have sc := sc_is_base
  refine fnr_of (fn_ok F sc (cl := A.cl) (B := b_is_base) fun cdv A2 outer s H E hr tk => ?_) (F.binds (ps := ["column", "at"]) fun _ _ _ _ _ _ us hl => match us, hl with | [_, _], _ => by kernel_rfl)
  have hu := hr.units
  unfold b_is_base
  exact (ss_one (s_ret (f_cmp (op_eqD hu) o_eq (f_var 1) (f_op op_sub o_sub (f_callB call_len2 n_len T.n_len (a_cons (f_var 0) a_nil)) f_int) (nomark _))))
theorem sc_looks_down : FnScope ["layers", "column", "at"] ["layers", "column", "at"] (defScope s_looks_down) := ⟨rfl, rfl, rfl, by decide +kernel, rfl, by decide +kernel, by decide +kernel⟩
def b_looks_down : Sl → Sto → RS := (SRet (FAnd (F2 (opIsN false) (F2 opIx (FVar 1) (FVar 2)) (FC .non)) (FAnd (F2 (opEqB true) (F2 opIx (F2 opIx (FVar 0) (FVar 2)) (FC (.int 2))) (FC (.str "shut"))) (FNot (FB m_is_base (ACons (FVar 1) (ACons (FVar 2) ANil)))))))
def m_looks_down : DN := mFn 3 3 b_looks_down
theorem ok_looks_down {A : Ad} (T : Tx P w K mg A) : FnR P w K mg base (L2.CX P w) 2 A.a_looks_down (spF ⟨K, A.cl⟩ m_looks_down) := by
  obtain ⟨fd, F, hm⟩ := T.d_looks_down.ex
  have sc := sc_looks_down
  refine fnr_of (fn_ok F sc (cl := A.cl) (B := b_looks_down) fun cdv A2 outer s H E hr tk => ?_) (F.binds (ps := ["layers", "column", "at"]) fun _ _ _ _ _ _ us hl => match us, hl with | [_, _, _], _ => by kernel_rfl)
  have hu := hr.units
  unfold b_looks_down
  exact (ss_one (s_ret (f_and (f_cmp op_isN o_isN (f_ix (f_var 1) (f_var 2)) f_non (nomark _)) (f_and (f_cmp (op_neD hu) o_ne (f_ix (f_ix (f_var 0) (f_var 2)) (f_globD T.c_READ)) f_str (nomark _)) (f_one (f_not (f_call (ok_is_base T) (hr.mono (by decide)) tk T.d_is_base.mg T.d_is_base.kp (a_cons (f_var 1) (a_cons (f_var 2) a_nil)))))))))
end
end K6
set_option Elab.async false
set_option autoImplicit false
set_option linter.all false
set_option maxRecDepth 100000
set_option maxHeartbeats 4000000
namespace K6
open PySem L2 Mi
section
variable {P : Program} {w : World} {K : PySem.W.Frag} {mg : Str → Option Value} {base : Heap}
theorem sc_placed : FnScope ["column", "at", "held"] ["column", "at", "held"] (defScope s_placed) := ⟨rfl, rfl, rfl, by decide +kernel, rfl, by decide +kernel, by decide +kernel⟩
def b_placed : Sl → Sto → RS := (SRet (F2 opAdd (F2 opAdd (FSl (FVar 0) PN (PI_ (FVar 1))) (FTup (ACons (FVar 2) ANil))) (FSl (FVar 0) (PI_ (F2 opAdd (FVar 1) (FC (.int 1)))) PN)))
def m_placed : DN := mFn 3 3 b_placed
theorem ok_placed {A : Ad} (T : Tx P w K mg A) : FnR P w K mg base (L2.CX P w) 1 A.a_placed (spF ⟨K, A.cl⟩ m_placed) := by
  obtain ⟨fd, F, hm⟩ := T.d_placed.ex
  have sc := sc_placed
  refine fnr_of (fn_ok F sc (cl := A.cl) (B := b_placed) fun cdv A2 outer s H E hr tk => ?_) (F.binds (ps := ["column", "at", "held"]) fun _ _ _ _ _ _ us hl => match us, hl with | [_, _, _], _ => by kernel_rfl)
  have hu := hr.units
  unfold b_placed
  exact (ss_one (s_ret (f_op op_add3 o_add (f_op op_add3 o_add (f_slice (f_var 0) p_none (p_some (f_var 1))) (f_tup (a_cons (f_var 2) a_nil))) (f_slice (f_var 0) (p_some (f_op op_add3 o_add (f_var 1) f_int)) p_none))))
theorem sc_kept : FnScope ["layers", "column", "at", "value"] ["layers", "column", "at", "value"] (defScope s_kept) := ⟨rfl, rfl, rfl, by decide +kernel, rfl, by decide +kernel, by decide +kernel⟩
def b_kept : Sl → Sto → RS := (SRet (FIf (TB (F2 (opEqB false) (F2 opIx (F2 opIx (FVar 0) (FVar 2)) (FC (.int 2))) (FC (.str "keep")))) (FB m_placed (ACons (FVar 1) (ACons (FVar 2) (ACons (FVar 3) ANil)))) (FVar 1)))
def m_kept : DN := mFn 4 4 b_kept
theorem ok_kept {A : Ad} (T : Tx P w K mg A) : FnR P w K mg base (L2.CX P w) 2 A.a_kept (spF ⟨K, A.cl⟩ m_kept) := by
  obtain ⟨fd, F, hm⟩ := T.d_kept.ex
  have sc := sc_kept
  refine fnr_of (fn_ok F sc (cl := A.cl) (B := b_kept) fun cdv A2 outer s H E hr tk => ?_) (F.binds (ps := ["layers", "column", "at", "value"]) fun _ _ _ _ _ _ us hl => match us, hl with | [_, _, _, _], _ => by kernel_rfl)
  have hu := hr.units
  unfold b_kept
  exact (ss_one (s_ret (f_if (t_cmp (op_eqD hu) o_eq (f_ix (f_ix (f_var 0) (f_var 2)) (f_globD T.c_READ)) f_str (nomark _)) (f_call (ok_placed T) (hr.mono (by decide)) tk T.d_placed.mg T.d_placed.kp (a_cons (f_var 1) (a_cons (f_var 2) (a_cons (f_var 3) a_nil)))) (f_var 1))))
theorem sc_written : FnScope ["layers", "column", "at", "value", "word"] ["layers", "column", "at", "value"] (defScope s_written) := ⟨rfl, rfl, rfl, by decide +kernel, rfl, by decide +kernel, by decide +kernel⟩
def b_written (rec : DN) : Sl → Sto → RS := (SSeq (SAsg (F2 opIx (F2 opIx (FVar 0) (FVar 2)) (FC (.int 0))) (gN 4)) (SSeq (SIf (TOr (TB (F2 (opEqB false) (FVar 4) (FC (.str "here")))) (TB (FB m_is_base (ACons (FVar 1) (ACons (FVar 2) ANil))))) (SRet (FB m_placed (ACons (FVar 1) (ACons (FVar 2) (ACons (FVar 3) ANil))))) SNx) (SSeq (SIf (TB (F2 (opEqB false) (FVar 4) (FC (.str "both")))) (SAsg (FB m_placed (ACons (FVar 1) (ACons (FVar 2) (ACons (FVar 3) ANil)))) (gN 1)) SNx) (SRet (FB rec (ACons (FVar 0) (ACons (FVar 1) (ACons (F2 opAdd (FVar 2) (FC (.int 1))) (ACons (FVar 3) ANil)))))))))
def m_written : Nat → DN
  | 0 => fun _ _ => .bad
  | n + 1 => mFn 4 5 (b_written (m_written n))
theorem ok_written {A : Ad} (T : Tx P w K mg A) : ∀ n : Nat, FnR P w K mg base (L2.CX P w) (1 + n) A.a_written (spF ⟨K, A.cl⟩ (m_written n))
  | 0 => fnr_bad fun _ _ => rfl
  | n + 1 => by
    obtain ⟨fd, F, hm⟩ := T.d_written.ex
    have ih := ok_written T n
    have sc := sc_written
    refine fnr_of (fn_ok F sc (cl := A.cl) (B := b_written (m_written n)) fun cdv A2 outer s H E hr tk => ?_) (F.binds (ps := ["layers", "column", "at", "value"]) fun _ _ _ _ _ _ us hl => match us, hl with | [_, _, _, _], _ => by kernel_rfl)
    have hu := hr.units
    unfold b_written
    exact (ss_cons (s_set (i := 4) sc.nd (f_ix (f_ix (f_var 0) (f_var 2)) (f_globD T.c_WRITE))) (ss_cons (s_if (PW.pt (w_or (t_cmp (op_eqD hu) o_eq (f_var 4) f_str (nomark _)) (w_or1 (t_val (f_call (ok_is_base T) (hr.mono (Nat.le_trans (by decide : 1 ≤ 1) (Nat.le_add_right 1 n))) tk T.d_is_base.mg T.d_is_base.kp (a_cons (f_var 1) (a_cons (f_var 2) a_nil))))))) (ss_one (s_ret (f_call (ok_placed T) (hr.mono (Nat.le_trans (by decide : 1 ≤ 1) (Nat.le_add_right 1 n))) tk T.d_placed.mg T.d_placed.kp (a_cons (f_var 1) (a_cons (f_var 2) (a_cons (f_var 3) a_nil)))))) ss_nil) (ss_cons (s_if (t_cmp (op_eqD hu) o_eq (f_var 4) f_str (nomark _)) (ss_one (s_set (i := 1) sc.nd (f_call (ok_placed T) (hr.mono (Nat.le_trans (by decide : 1 ≤ 1) (Nat.le_add_right 1 n))) tk T.d_placed.mg T.d_placed.kp (a_cons (f_var 1) (a_cons (f_var 2) (a_cons (f_var 3) a_nil)))))) ss_nil) (ss_one (s_ret (f_call ih hr tk T.d_written.mg T.d_written.kp (a_cons (f_var 0) (a_cons (f_var 1) (a_cons (f_op op_add3 o_add (f_var 2) f_int) (a_cons (f_var 3) a_nil))))))))))
theorem sc_hooked : FnScope ["layers", "column", "at", "hook", "word", "number"] ["layers", "column", "at"] (defScope s_hooked) := ⟨rfl, rfl, rfl, by decide +kernel, rfl, by decide +kernel, by decide +kernel⟩
def b_hooked : Sl → Sto → RS := (SSeq (SAsg (F2 opIx (F2 opIx (FVar 0) (FVar 2)) (FC (.int 3))) (gN 3)) (SSeq (SIf (TB (F2 (opIsN false) (FVar 3) (FC .non))) (SRet (FTup (ACons (FC .non) (ACons (FVar 1) ANil)))) SNx) (SSeq (SAsg (FVar 3) (gT 2 [(gN 4), (gN 5)])) (SSeq (SIf (TB (F2 (opEqB false) (FVar 4) (FC (.str "made")))) (SAsg (FB (m_written 4) (ACons (FVar 0) (ACons (FVar 1) (ACons (FVar 2) (ACons (FVar 5) ANil))))) (gN 1)) SNx) (SRet (FTup (ACons (FVar 5) (ACons (FVar 1) ANil))))))))
def m_hooked : DN := mFn 3 6 b_hooked
theorem ok_hooked {A : Ad} (T : Tx P w K mg A) : FnR P w K mg base (L2.CX P w) 6 A.a_hooked (spF ⟨K, A.cl⟩ m_hooked) := by
  obtain ⟨fd, F, hm⟩ := T.d_hooked.ex
  have sc := sc_hooked
  refine fnr_of (fn_ok F sc (cl := A.cl) (B := b_hooked) fun cdv A2 outer s H E hr tk => ?_) (F.binds (ps := ["layers", "column", "at"]) fun _ _ _ _ _ _ us hl => match us, hl with | [_, _, _], _ => by kernel_rfl)
  have hu := hr.units
  unfold b_hooked
  exact (ss_cons (s_set (i := 3) sc.nd (f_ix (f_ix (f_var 0) (f_var 2)) (f_globD T.c_HOOK))) (ss_cons (s_if (t_cmp op_isN o_isN (f_var 3) f_non (nomark _)) (ss_one (s_ret (f_tup (a_cons f_non (a_cons (f_var 1) a_nil))))) ss_nil) (ss_cons (s_asg (f_var 3) (g_tup rfl (gs_cons (g_name (i := 4) sc.nd) (gs_cons (g_name (i := 5) sc.nd) gs_nil))) nx_tup) (ss_cons (s_if (t_cmp (op_eqD hu) o_eq (f_var 4) f_str (nomark _)) (ss_one (s_set (i := 1) sc.nd (f_call (ok_written T 4) (hr.mono (by decide)) tk T.d_written.mg T.d_written.kp (a_cons (f_var 0) (a_cons (f_var 1) (a_cons (f_var 2) (a_cons (f_var 5) a_nil))))))) ss_nil) (ss_one (s_ret (f_tup (a_cons (f_var 5) (a_cons (f_var 1) a_nil)))))))))
theorem sc_asked : FnScope ["layers", "column", "at", "answer", "after"] ["layers", "column", "at"] (defScope s_asked) := ⟨rfl, rfl, rfl, by decide +kernel, rfl, by decide +kernel, by decide +kernel⟩
def b_asked (rec : DN) : Sl → Sto → RS := (SSeq (SIf (TB (FB m_looks_down (ACons (FVar 0) (ACons (FVar 1) (ACons (FVar 2) ANil))))) (SSeq (SAsg (FB rec (ACons (FVar 0) (ACons (FVar 1) (ACons (F2 opAdd (FVar 2) (FC (.int 1))) ANil)))) (gT 2 [(gN 3), (gN 4)])) (SIf (TB (F2 (opIsN true) (FVar 3) (FC .non))) (SRet (FTup (ACons (FVar 3) (ACons (FGc (FB m_kept (ACons (FVar 0) (ACons (FVar 4) (ACons (FVar 2) (ACons (FVar 3) ANil)))))) ANil)))) SNx)) (SIf (TAnd (TB (F2 (opIsN true) (F2 opIx (FVar 1) (FVar 2)) (FC .non))) (TB (F2 (opEqB true) (F2 opIx (FVar 1) (FVar 2)) (FC (.str "hidden"))))) (SRet (FTup (ACons (F2 opIx (FVar 1) (FVar 2)) (ACons (FVar 1) ANil)))) SNx)) (SRet (FB m_hooked (ACons (FVar 0) (ACons (FVar 1) (ACons (FVar 2) ANil))))))
def m_asked : Nat → DN
  | 0 => fun _ _ => .bad
  | n + 1 => mFn 3 5 (b_asked (m_asked n))
theorem ok_asked {A : Ad} (T : Tx P w K mg A) : ∀ n : Nat, FnR P w K mg base (L2.CX P w) (6 + n) A.a_asked (spF ⟨K, A.cl⟩ (m_asked n))
  | 0 => fnr_bad fun _ _ => rfl
  | n + 1 => by
    obtain ⟨fd, F, hm⟩ := T.d_asked.ex
    have ih := ok_asked T n
    have sc := sc_asked
    refine fnr_of (fn_ok F sc (cl := A.cl) (B := b_asked (m_asked n)) fun cdv A2 outer s H E hr tk => ?_) (F.binds (ps := ["layers", "column", "at"]) fun _ _ _ _ _ _ us hl => match us, hl with | [_, _, _], _ => by kernel_rfl)
    have hu := hr.units
    unfold b_asked
    exact (ss_cons (s_if (t_val (f_call (ok_looks_down T) (hr.mono (Nat.le_trans (by decide : 2 ≤ 6) (Nat.le_add_right 6 n))) tk T.d_looks_down.mg T.d_looks_down.kp (a_cons (f_var 0) (a_cons (f_var 1) (a_cons (f_var 2) a_nil))))) (ss_cons (s_asg (f_call ih hr tk T.d_asked.mg T.d_asked.kp (a_cons (f_var 0) (a_cons (f_var 1) (a_cons (f_op op_add3 o_add (f_var 2) f_int) a_nil)))) (g_tup rfl (gs_cons (g_name (i := 3) sc.nd) (gs_cons (g_name (i := 4) sc.nd) gs_nil))) nx_tup) (ss_one (s_if (t_cmp op_notN o_notN (f_var 3) f_non (nomark _)) (ss_one (s_ret (f_tup (a_cons (f_var 3) (a_cons (f_gc (f_call (ok_kept T) (hr.mono (Nat.le_trans (by decide : 2 ≤ 6) (Nat.le_add_right 6 n))) tk T.d_kept.mg T.d_kept.kp (a_cons (f_var 0) (a_cons (f_var 4) (a_cons (f_var 2) (a_cons (f_var 3) a_nil)))))) a_nil))))) ss_nil))) (ss_one (s_if (PW.pt (w_and (t_cmp op_notN o_notN (f_ix (f_var 1) (f_var 2)) f_non (nomark _)) (w_and1 (t_cmp (op_neD hu) o_ne (f_ix (f_var 1) (f_var 2)) (f_globD T.c_HIDDEN) (nomark _))))) (ss_one (s_ret (f_tup (a_cons (f_ix (f_var 1) (f_var 2)) (a_cons (f_var 1) a_nil))))) ss_nil))) (ss_one (s_ret (f_call (ok_hooked T) (hr.mono (Nat.le_trans (by decide : 6 ≤ 6) (Nat.le_add_right 6 n))) tk T.d_hooked.mg T.d_hooked.kp (a_cons (f_var 0) (a_cons (f_var 1) (a_cons (f_var 2) a_nil)))))))
theorem sc_seen : FnScope ["layers", "column", "at"] ["layers", "column", "at"] (defScope s_seen) := ⟨rfl, rfl, rfl, by decide +kernel, rfl, by decide +kernel, by decide +kernel⟩
def b_seen (rec : DN) : Sl → Sto → RS := (SSeq (SIf (TB (FB m_looks_down (ACons (FVar 0) (ACons (FVar 1) (ACons (FVar 2) ANil))))) (SRet (FB rec (ACons (FVar 0) (ACons (FVar 1) (ACons (F2 opAdd (FVar 2) (FC (.int 1))) ANil))))) SNx) (SRet (FIf (TB (F2 (opEqB false) (F2 opIx (FVar 1) (FVar 2)) (FC (.str "hidden")))) (FC .non) (F2 opIx (FVar 1) (FVar 2)))))
def m_seen : Nat → DN
  | 0 => fun _ _ => .bad
  | n + 1 => mFn 3 3 (b_seen (m_seen n))
theorem ok_seen {A : Ad} (T : Tx P w K mg A) : ∀ n : Nat, FnR P w K mg base (L2.CX P w) (2 + n) A.a_seen (spF ⟨K, A.cl⟩ (m_seen n))
  | 0 => fnr_bad fun _ _ => rfl
  | n + 1 => by
    obtain ⟨fd, F, hm⟩ := T.d_seen.ex
    have ih := ok_seen T n
    have sc := sc_seen
    refine fnr_of (fn_ok F sc (cl := A.cl) (B := b_seen (m_seen n)) fun cdv A2 outer s H E hr tk => ?_) (F.binds (ps := ["layers", "column", "at"]) fun _ _ _ _ _ _ us hl => match us, hl with | [_, _, _], _ => by kernel_rfl)
    have hu := hr.units
    unfold b_seen
    exact (ss_cons (s_if (t_val (f_call (ok_looks_down T) (hr.mono (Nat.le_trans (by decide : 2 ≤ 2) (Nat.le_add_right 2 n))) tk T.d_looks_down.mg T.d_looks_down.kp (a_cons (f_var 0) (a_cons (f_var 1) (a_cons (f_var 2) a_nil))))) (ss_one (s_ret (f_call ih hr tk T.d_seen.mg T.d_seen.kp (a_cons (f_var 0) (a_cons (f_var 1) (a_cons (f_op op_add3 o_add (f_var 2) f_int) a_nil)))))) ss_nil) (ss_one (s_ret (f_if (t_cmp (op_eqD hu) o_eq (f_ix (f_var 1) (f_var 2)) (f_globD T.c_HIDDEN) (nomark _)) f_non (f_ix (f_var 1) (f_var 2))))))
theorem sc_removed : FnScope ["column", "at"] ["column", "at"] (defScope s_removed) := ⟨rfl, rfl, rfl, by decide +kernel, rfl, by decide +kernel, by decide +kernel⟩
def b_removed : Sl → Sto → RS := (SSeq (SIf (TOr (TB (F2 (opIsN false) (F2 opIx (FVar 0) (FVar 1)) (FC .non))) (TB (F2 (opEqB false) (F2 opIx (FVar 0) (FVar 1)) (FC (.str "hidden"))))) (SRet (FTup (ACons (FC (.bl false)) (ACons (FVar 0) ANil)))) SNx) (SRet (FTup (ACons (FC (.bl true)) (ACons (FB m_placed (ACons (FVar 0) (ACons (FVar 1) (ACons (FC .non) ANil)))) ANil)))))
def m_removed : DN := mFn 2 2 b_removed
theorem ok_removed {A : Ad} (T : Tx P w K mg A) : FnR P w K mg base (L2.CX P w) 2 A.a_removed (spF ⟨K, A.cl⟩ m_removed) := by
  obtain ⟨fd, F, hm⟩ := T.d_removed.ex
  have sc := sc_removed
  refine fnr_of (fn_ok F sc (cl := A.cl) (B := b_removed) fun cdv A2 outer s H E hr tk => ?_) (F.binds (ps := ["column", "at"]) fun _ _ _ _ _ _ us hl => match us, hl with | [_, _], _ => by kernel_rfl)
  have hu := hr.units
  unfold b_removed
  exact (ss_cons (s_if (PW.pt (w_or (t_cmp op_isN o_isN (f_ix (f_var 0) (f_var 1)) f_non (nomark _)) (w_or1 (t_cmp (op_eqD hu) o_eq (f_ix (f_var 0) (f_var 1)) (f_globD T.c_HIDDEN) (nomark _))))) (ss_one (s_ret (f_tup (a_cons f_bl (a_cons (f_var 0) a_nil))))) ss_nil) (ss_one (s_ret (f_tup (a_cons f_bl (a_cons (f_call (ok_placed T) (hr.mono (by decide)) tk T.d_placed.mg T.d_placed.kp (a_cons (f_var 0) (a_cons (f_var 1) (a_cons f_non a_nil)))) a_nil))))))
theorem sc_forgotten : FnScope ["layers", "column", "at", "word", "first", "second"] ["layers", "column", "at"] (defScope s_forgotten) := ⟨rfl, rfl, rfl, by decide +kernel, rfl, by decide +kernel, by decide +kernel⟩
def b_forgotten (rec : DN) : Sl → Sto → RS := (SSeq (SAsg (F2 opIx (F2 opIx (FVar 0) (FVar 2)) (FC (.int 1))) (gN 3)) (SSeq (SIf (TB (F2 (opEqB false) (FVar 3) (FC (.str "hide")))) (SSeq (SIf (TB (F2 (opIsN false) (FB (m_seen 4) (ACons (FVar 0) (ACons (FVar 1) (ACons (FVar 2) ANil)))) (FC .non))) (SRet (FTup (ACons (FC (.bl false)) (ACons (FVar 1) ANil)))) SNx) (SRet (FTup (ACons (FC (.bl true)) (ACons (FB m_placed (ACons (FVar 1) (ACons (FVar 2) (ACons (FC (.str "hidden")) ANil)))) ANil))))) SNx) (SSeq (SIf (TOr (TB (F2 (opEqB false) (FVar 3) (FC (.str "here")))) (TB (FB m_is_base (ACons (FVar 1) (ACons (FVar 2) ANil))))) (SRet (FB m_removed (ACons (FVar 1) (ACons (FVar 2) ANil)))) SNx) (SSeq (SIf (TB (F2 (opEqB false) (FVar 3) (FC (.str "down")))) (SRet (FB rec (ACons (FVar 0) (ACons (FVar 1) (ACons (F2 opAdd (FVar 2) (FC (.int 1))) ANil))))) SNx) (SSeq (SAsg (FB m_removed (ACons (FVar 1) (ACons (FVar 2) ANil))) (gT 2 [(gN 4), (gN 1)])) (SSeq (SAsg (FB rec (ACons (FVar 0) (ACons (FVar 1) (ACons (F2 opAdd (FVar 2) (FC (.int 1))) ANil)))) (gT 2 [(gN 5), (gN 1)])) (SRet (FTup (ACons (FOr (FVar 4) (FVar 5)) (ACons (FVar 1) ANil))))))))))
def m_forgotten : Nat → DN
  | 0 => fun _ _ => .bad
  | n + 1 => mFn 3 6 (b_forgotten (m_forgotten n))
theorem ok_forgotten {A : Ad} (T : Tx P w K mg A) : ∀ n : Nat, FnR P w K mg base (L2.CX P w) (6 + n) A.a_forgotten (spF ⟨K, A.cl⟩ (m_forgotten n))
  | 0 => fnr_bad fun _ _ => rfl
  | n + 1 => by
    obtain ⟨fd, F, hm⟩ := T.d_forgotten.ex
    have ih := ok_forgotten T n
    have sc := sc_forgotten
    refine fnr_of (fn_ok F sc (cl := A.cl) (B := b_forgotten (m_forgotten n)) fun cdv A2 outer s H E hr tk => ?_) (F.binds (ps := ["layers", "column", "at"]) fun _ _ _ _ _ _ us hl => match us, hl with | [_, _, _], _ => by kernel_rfl)
    have hu := hr.units
    unfold b_forgotten
    exact (ss_cons (s_set (i := 3) sc.nd (f_ix (f_ix (f_var 0) (f_var 2)) (f_globD T.c_FORGET))) (ss_cons (s_if (t_cmp (op_eqD hu) o_eq (f_var 3) f_str (nomark _)) (ss_cons (s_if (t_cmp op_isN o_isN (f_call (ok_seen T 4) (hr.mono (Nat.le_trans (by decide : 6 ≤ 6) (Nat.le_add_right 6 n))) tk T.d_seen.mg T.d_seen.kp (a_cons (f_var 0) (a_cons (f_var 1) (a_cons (f_var 2) a_nil)))) f_non (nomark _)) (ss_one (s_ret (f_tup (a_cons f_bl (a_cons (f_var 1) a_nil))))) ss_nil) (ss_one (s_ret (f_tup (a_cons f_bl (a_cons (f_call (ok_placed T) (hr.mono (Nat.le_trans (by decide : 1 ≤ 6) (Nat.le_add_right 6 n))) tk T.d_placed.mg T.d_placed.kp (a_cons (f_var 1) (a_cons (f_var 2) (a_cons (f_globD T.c_HIDDEN) a_nil)))) a_nil)))))) ss_nil) (ss_cons (s_if (PW.pt (w_or (t_cmp (op_eqD hu) o_eq (f_var 3) f_str (nomark _)) (w_or1 (t_val (f_call (ok_is_base T) (hr.mono (Nat.le_trans (by decide : 1 ≤ 6) (Nat.le_add_right 6 n))) tk T.d_is_base.mg T.d_is_base.kp (a_cons (f_var 1) (a_cons (f_var 2) a_nil))))))) (ss_one (s_ret (f_call (ok_removed T) (hr.mono (Nat.le_trans (by decide : 2 ≤ 6) (Nat.le_add_right 6 n))) tk T.d_removed.mg T.d_removed.kp (a_cons (f_var 1) (a_cons (f_var 2) a_nil))))) ss_nil) (ss_cons (s_if (t_cmp (op_eqD hu) o_eq (f_var 3) f_str (nomark _)) (ss_one (s_ret (f_call ih hr tk T.d_forgotten.mg T.d_forgotten.kp (a_cons (f_var 0) (a_cons (f_var 1) (a_cons (f_op op_add3 o_add (f_var 2) f_int) a_nil)))))) ss_nil) (ss_cons (s_asg (f_call (ok_removed T) (hr.mono (Nat.le_trans (by decide : 2 ≤ 6) (Nat.le_add_right 6 n))) tk T.d_removed.mg T.d_removed.kp (a_cons (f_var 1) (a_cons (f_var 2) a_nil))) (g_tup rfl (gs_cons (g_name (i := 4) sc.nd) (gs_cons (g_name (i := 1) sc.nd) gs_nil))) nx_tup) (ss_cons (s_asg (f_call ih hr tk T.d_forgotten.mg T.d_forgotten.kp (a_cons (f_var 0) (a_cons (f_var 1) (a_cons (f_op op_add3 o_add (f_var 2) f_int) a_nil)))) (g_tup rfl (gs_cons (g_name (i := 5) sc.nd) (gs_cons (g_name (i := 1) sc.nd) gs_nil))) nx_tup) (ss_one (s_ret (f_tup (a_cons (f_or (f_var 4) (f_one (f_var 5))) (a_cons (f_var 1) a_nil)))))))))))
theorem sc_done : FnScope ["layers", "column", "deed", "word"] ["layers", "column", "deed"] (defScope s_done) := ⟨rfl, rfl, rfl, by decide +kernel, rfl, by decide +kernel, by decide +kernel⟩
def b_done : Sl → Sto → RS := (SSeq (SAsg (F2 opIx (FVar 2) (FC (.int 0))) (gN 3)) (SSeq (SIf (TB (F2 (opEqB false) (FVar 3) (FC (.str "ask")))) (SRet (FB (m_asked 4) (ACons (FVar 0) (ACons (FVar 1) (ACons (FC (.int 0)) ANil))))) SNx) (SSeq (SIf (TB (F2 (opEqB false) (FVar 3) (FC (.str "has")))) (SRet (FTup (ACons (F2 (opIsN true) (FB (m_seen 4) (ACons (FVar 0) (ACons (FVar 1) (ACons (FC (.int 0)) ANil)))) (FC .non)) (ACons (FVar 1) ANil)))) SNx) (SSeq (SIf (TB (F2 (opEqB false) (FVar 3) (FC (.str "write")))) (SRet (FTup (ACons (FC .non) (ACons (FB (m_written 4) (ACons (FVar 0) (ACons (FVar 1) (ACons (FC (.int 0)) (ACons (F2 opIx (FVar 2) (FC (.int 1))) ANil))))) ANil)))) SNx) (SSeq (SIf (TB (F2 (opEqB false) (FVar 3) (FC (.str "forget")))) (SRet (FB (m_forgotten 4) (ACons (FVar 0) (ACons (FVar 1) (ACons (FC (.int 0)) ANil))))) SNx) (SRet (FTup (ACons (FC .non) (ACons (FB m_placed (ACons (FVar 1) (ACons (F2 opSub (FB fnLen (ACons (FVar 1) ANil)) (FC (.int 1))) (ACons (F2 opIx (FVar 2) (FC (.int 1))) ANil)))) ANil)))))))))
def m_done : DN := mFn 3 4 b_done
theorem ok_done {A : Ad} (T : Tx P w K mg A) : FnR P w K mg base (L2.CX P w) 11 A.a_done (spF ⟨K, A.cl⟩ m_done) := by
  obtain ⟨fd, F, hm⟩ := T.d_done.ex
  have sc := sc_done
  refine fnr_of (fn_ok F sc (cl := A.cl) (B := b_done) fun cdv A2 outer s H E hr tk => ?_) (F.binds (ps := ["layers", "column", "deed"]) fun _ _ _ _ _ _ us hl => match us, hl with | [_, _, _], _ => by kernel_rfl)
  have hu := hr.units
  unfold b_done
  exact (ss_cons (s_set (i := 3) sc.nd (f_ix (f_var 2) f_int)) (ss_cons (s_if (t_cmp (op_eqD hu) o_eq (f_var 3) f_str (nomark _)) (ss_one (s_ret (f_call (ok_asked T 4) (hr.mono (by decide)) tk T.d_asked.mg T.d_asked.kp (a_cons (f_var 0) (a_cons (f_var 1) (a_cons f_int a_nil)))))) ss_nil) (ss_cons (s_if (t_cmp (op_eqD hu) o_eq (f_var 3) f_str (nomark _)) (ss_one (s_ret (f_tup (a_cons (f_cmp op_notN o_notN (f_call (ok_seen T 4) (hr.mono (by decide)) tk T.d_seen.mg T.d_seen.kp (a_cons (f_var 0) (a_cons (f_var 1) (a_cons f_int a_nil)))) f_non (nomark _)) (a_cons (f_var 1) a_nil))))) ss_nil) (ss_cons (s_if (t_cmp (op_eqD hu) o_eq (f_var 3) f_str (nomark _)) (ss_one (s_ret (f_tup (a_cons f_non (a_cons (f_call (ok_written T 4) (hr.mono (by decide)) tk T.d_written.mg T.d_written.kp (a_cons (f_var 0) (a_cons (f_var 1) (a_cons f_int (a_cons (f_ix (f_var 2) f_int) a_nil))))) a_nil))))) ss_nil) (ss_cons (s_if (t_cmp (op_eqD hu) o_eq (f_var 3) f_str (nomark _)) (ss_one (s_ret (f_call (ok_forgotten T 4) (hr.mono (by decide)) tk T.d_forgotten.mg T.d_forgotten.kp (a_cons (f_var 0) (a_cons (f_var 1) (a_cons f_int a_nil)))))) ss_nil) (ss_one (s_ret (f_tup (a_cons f_non (a_cons (f_call (ok_placed T) (hr.mono (by decide)) tk T.d_placed.mg T.d_placed.kp (a_cons (f_var 1) (a_cons (f_op op_sub o_sub (f_callB call_len2 n_len T.n_len (a_cons (f_var 1) a_nil)) f_int) (a_cons (f_ix (f_var 2) f_int) a_nil)))) a_nil))))))))))
theorem sc_Stack_column : FnScope ["self", "key"] ["self", "key"] (defScope s_Stack_column) := ⟨rfl, rfl, rfl, by decide +kernel, rfl, by decide +kernel, by decide +kernel⟩
def b_Stack_column : Sl → Sto → RS := (SSeq (SExp (FB m_check_key (ACons (FVar 1) ANil))) (SRet (FDGet2 (FFld 0 1 (FVar 0)) (FVar 1) (F2 opMulX (FTup (ACons (FC .non) ANil)) (FB fnLen (ACons (FFld 0 0 (FVar 0)) ANil))))))
def m_Stack_column : DN := mFn 2 2 b_Stack_column
theorem ok_Stack_column {A : Ad} (T : Tx P w K mg A) : FnR P w K mg base (L2.CX P w) 3 A.a_Stack_column (spF ⟨K, A.cl⟩ m_Stack_column) := by
  obtain ⟨fd, F⟩ := T.d_Stack_column.ex
  have sc := sc_Stack_column
  refine fnr_of (fn_ok F sc (cl := A.cl) (B := b_Stack_column) fun cdv A2 outer s H E hr tk => ?_) (F.binds (ps := ["self", "key"]) fun _ _ _ _ _ _ us hl => match us, hl with | [_, _], _ => by kernel_rfl)
  have hu := hr.units
  unfold b_Stack_column
  exact (ss_cons (s_expr (f_call (ok_check_key T) (hr.mono (by decide)) tk T.d_check_key.mg T.d_check_key.kp (a_cons (f_var 1) a_nil))) (ss_one (s_ret (f_dget2 (hu1 hr) (f_fld (i := 1) T.f_Stack (f_var 0) (by rw [T.e_Stack]; rfl)) (f_var 1) (f_op op_mulX o_mulX (f_tup (a_cons f_non a_nil)) (f_callB call_len2 n_len T.n_len (a_cons (f_fld (i := 0) T.f_Stack (f_var 0) (by rw [T.e_Stack]; rfl)) a_nil)))))))
theorem sc_Stack__deed : FnScope ["self", "key", "deed", "answer", "column"] ["self", "key", "deed"] (defScope s_Stack__deed) := ⟨rfl, rfl, rfl, by decide +kernel, rfl, by decide +kernel, by decide +kernel⟩
def b_Stack__deed : Sl → Sto → RS := (SSeq (SAsg (FB m_done (ACons (FFld 0 0 (FVar 0)) (ACons (FMeth 0 m_Stack_column (FVar 0) (ACons (FVar 1) ANil)) (ACons (FVar 2) ANil)))) (gT 2 [(gN 3), (gN 4)])) (SSeq (SIf (TB (F2 (opEqB false) (FVar 4) (F2 opMulX (FTup (ACons (FC .non) ANil)) (FB fnLen (ACons (FVar 4) ANil))))) (SExp (FDPop2 (FFld 0 1 (FVar 0)) (FVar 1) (FC .non))) (SDPut (FFld 0 1 (FVar 0)) (FVar 1) (FVar 4))) (SRet (FVar 3))))
def m_Stack__deed : DN := mFn 3 5 b_Stack__deed
theorem ok_Stack__deed {A : Ad} (T : Tx P w K mg A) : FnR P w K mg base (L2.CX P w) 12 A.a_Stack__deed (spF ⟨K, A.cl⟩ m_Stack__deed) := by
  obtain ⟨fd, F⟩ := T.d_Stack__deed.ex
  have sc := sc_Stack__deed
  refine fnr_of (fn_ok F sc (cl := A.cl) (B := b_Stack__deed) fun cdv A2 outer s H E hr tk => ?_) (F.binds (ps := ["self", "key", "deed"]) fun _ _ _ _ _ _ us hl => match us, hl with | [_, _, _], _ => by kernel_rfl)
  have hu := hr.units
  unfold b_Stack__deed
  exact (ss_cons (s_asg (f_call (ok_done T) (hr.mono (by decide)) tk T.d_done.mg T.d_done.kp (a_cons (f_fld (i := 0) T.f_Stack (f_var 0) (by rw [T.e_Stack]; rfl)) (a_cons (f_meth T.f_Stack (ok_Stack_column T) (hr.mono (by decide)) tk T.me_Stack_column (by rw [T.e_Stack]; decide) (f_var 0) (a_cons (f_var 1) a_nil)) (a_cons (f_var 2) a_nil)))) (g_tup rfl (gs_cons (g_name (i := 3) sc.nd) (gs_cons (g_name (i := 4) sc.nd) gs_nil))) nx_tup) (ss_cons (s_if (t_cmp (op_eqD hu) o_eq (f_var 4) (f_op op_mulX o_mulX (f_tup (a_cons f_non a_nil)) (f_callB call_len2 n_len T.n_len (a_cons (f_var 4) a_nil))) (nomark _)) (ss_one (s_expr (f_dpop2 (f_fld (i := 1) T.f_Stack (f_var 0) (by rw [T.e_Stack]; rfl)) (f_var 1) f_non))) (ss_one (s_dput (hu1 hr) (f_fld (i := 1) T.f_Stack (f_var 0) (by rw [T.e_Stack]; rfl)) (f_var 1) (f_var 4)))) (ss_one (s_ret (f_var 3)))))
theorem sc_Stack_do : FnScope ["self", "key", "deeds", "answers", "deed"] ["self", "key", "deeds"] (defScope s_Stack_do) := ⟨rfl, rfl, rfl, by decide +kernel, rfl, by decide +kernel, by decide +kernel⟩
def b_Stack_do : Sl → Sto → RS := (SSeq (SExp (FB m_check_key (ACons (FVar 1) ANil))) (SSeq (SIf (TNot (TB (FB fnAll (ACons (FLc 300 (ITu (FVar 2)) (.one 4) TYes (FB m_is_deed (ACons (FVar 4) ANil)) [4]) ANil)))) (fun _ _ => .bad) SNx) (SSeq (SAsg (FLst ANil) (gN 3)) (SSeq (SFor 300 (ITu (FVar 2)) (gN 4) (SExp (FApp (FVar 3) (ACons (FMeth 0 m_Stack__deed (FVar 0) (ACons (FVar 1) (ACons (FVar 4) ANil))) ANil)))) (SRet (FVar 3))))))
def m_Stack_do : DN := mStar (["self", "key"] : List Str).length (mFn ((["self", "key"] : List Str).length + 1) (["self", "key", "deeds", "answers", "deed"] : List Str).length b_Stack_do)
theorem ok_Stack_do {A : Ad} (T : Tx P w K mg A) : FnR P w K mg base (L2.CX P w) 13 A.a_Stack_do (spF ⟨K, A.cl⟩ m_Stack_do) := by
  obtain ⟨fd, F⟩ := T.d_Stack_do.ex
  have sc := sc_Stack_do
  refine fnr_star (x := "do") (qual := "Stack.do") (pv := "deeds") (st := s_Stack_do) (N := ["self", "key", "deeds", "answers", "deed"]) (ps := ["self", "key"]) (k := 12) F sc (cl := A.cl) (B := b_Stack_do) (fun _ _ _ _ _ _ us rest hl => match us, rest, hl with | [_, _], [], _ => by kernel_rfl | [_, _], _ :: _, _ => by kernel_rfl) fun cdv A2 outer s H E hr tk => ?_
  have hu := hr.units
  unfold b_Stack_do
  exact (ss_cons (s_expr (f_call (ok_check_key T) (hr.mono (by decide)) tk T.d_check_key.mg T.d_check_key.kp (a_cons (f_var 1) a_nil))) (ss_cons (s_if (t_not (t_val (f_callB (cr_all rfl) n_all T.n_all (a_cons (f_lc (fuel := 300) (t := (.one 4)) (own := [("deed", 4)]) rfl sc.nd (i_tup (f_var 2)) (blkOk_by (N := ["self", "key", "deeds", "answers", "deed"]) (sc := defScope s_Stack_do) (by decide +kernel)) (fun _ _ _ _ _ => (pg_name sc.nd rfl (by first | exact Or.inl rfl | exact Or.inr rfl) (by first | exact Or.inl rfl | exact Or.inr rfl))) (tg_one (by decide)) (fun _ _ _ _ _ => ts_nil) (fun _ _ _ _ _ => (f_call (ok_is_deed T) (hr.mono (by decide)) tk0 T.d_is_deed.mg T.d_is_deed.kp (a_cons (f_var 4) a_nil)))) a_nil)))) (ss_one s_never) ss_nil) (ss_cons (s_set (i := 3) sc.nd (f_lst a_nil)) (ss_cons (s_for (fuel := 300) (passes_of rfl) rfl (i_tup (f_var 2)) (g_name (i := 4) sc.nd) nx_name (ss_one (s_expr (f_app (f_var 3) (a_cons (f_meth T.f_Stack (ok_Stack__deed T) (hr.mono (by decide)) tk T.me_Stack__deed (by rw [T.e_Stack]; decide) (f_var 0) (a_cons (f_var 1) (a_cons (f_var 4) a_nil))) a_nil))))) (ss_one (s_ret (f_var 3)))))))
theorem sc_Stack_of : FnScope ["cls", "layers"] ["cls", "layers"] (defScope s_Stack_of) := ⟨rfl, rfl, rfl, by decide +kernel, rfl, by decide +kernel, by decide +kernel⟩
def b_Stack_of : Sl → Sto → RS := (SRet (FNewV 0 0 m_Stack___init__ (ACons (FVar 1) ANil)))
def m_Stack_of : DN := mStar (["cls"] : List Str).length (mFn ((["cls"] : List Str).length + 1) (["cls", "layers"] : List Str).length b_Stack_of)
theorem ok_Stack_of {A : Ad} (T : Tx P w K mg A) : FnR P w K mg base (L2.CX P w) 7 A.a_Stack_of (spF ⟨K, A.cl⟩ m_Stack_of) := by
  obtain ⟨fd, F⟩ := T.d_Stack_of.ex
  have sc := sc_Stack_of
  refine fnr_star (x := "of") (qual := "Stack.of") (pv := "layers") (st := s_Stack_of) (N := ["cls", "layers"]) (ps := ["cls"]) (k := 6) F sc (cl := A.cl) (B := b_Stack_of) (fun _ _ _ _ _ _ us rest hl => match us, rest, hl with | [_], [], _ => by kernel_rfl | [_], _ :: _, _ => by kernel_rfl) fun cdv A2 outer s H E hr tk => ?_
  have hu := hr.units
  unfold b_Stack_of
  exact (ss_one (s_ret (f_newV (c := 0) (i := 0) T.mk_Stack (ok_Stack___init__ T) (hr.mono (by decide)) tk (a_cons (f_var 1) a_nil))))
theorem sc_Stack___contains__ : FnScope ["self", "key"] ["self", "key"] (defScope s_Stack___contains__) := ⟨rfl, rfl, rfl, by decide +kernel, rfl, by decide +kernel, by decide +kernel⟩
def b_Stack___contains__ : Sl → Sto → RS := (SRet (F2 (opIsN true) (FB (m_seen 4) (ACons (FFld 0 0 (FVar 0)) (ACons (FMeth 0 m_Stack_column (FVar 0) (ACons (FVar 1) ANil)) (ACons (FC (.int 0)) ANil)))) (FC .non)))
def m_Stack___contains__ : DN := mFn 2 2 b_Stack___contains__
theorem ok_Stack___contains__ {A : Ad} (T : Tx P w K mg A) : FnR P w K mg base (L2.CX P w) 7 A.a_Stack___contains__ (spF ⟨K, A.cl⟩ m_Stack___contains__) := by
  obtain ⟨fd, F⟩ := T.d_Stack___contains__.ex
  have sc := sc_Stack___contains__
  refine fnr_of (fn_ok F sc (cl := A.cl) (B := b_Stack___contains__) fun cdv A2 outer s H E hr tk => ?_) (F.binds (ps := ["self", "key"]) fun _ _ _ _ _ _ us hl => match us, hl with | [_, _], _ => by kernel_rfl)
  have hu := hr.units
  unfold b_Stack___contains__
  exact (ss_one (s_ret (f_cmp op_notN o_notN (f_call (ok_seen T 4) (hr.mono (by decide)) tk T.d_seen.mg T.d_seen.kp (a_cons (f_fld (i := 0) T.f_Stack (f_var 0) (by rw [T.e_Stack]; rfl)) (a_cons (f_meth T.f_Stack (ok_Stack_column T) (hr.mono (by decide)) tk T.me_Stack_column (by rw [T.e_Stack]; decide) (f_var 0) (a_cons (f_var 1) a_nil)) (a_cons f_int a_nil)))) f_non (nomark _))))
end
end K6
set_option Elab.async false
set_option autoImplicit false
set_option linter.all false
set_option maxRecDepth 100000
set_option maxHeartbeats 4000000
namespace K6
open PySem L2 Mi
section
variable {P : Program} {w : World} {K : PySem.W.Frag} {mg : Str → Option Value} {base : Heap}
theorem sc_Stack___setitem__ : FnScope ["self", "key", "value"] ["self", "key", "value"] (defScope s_Stack___setitem__) := ⟨rfl, rfl, rfl, by decide +kernel, rfl, by decide +kernel, by decide +kernel⟩
def b_Stack___setitem__ : Sl → Sto → RS := (SSeq (SExp (FB m_check_key (ACons (FVar 1) ANil))) (SSeq (SIf (TNot (TB (FB m_is_integer (ACons (FVar 2) ANil)))) (fun _ _ => .bad) SNx) (SExp (FMeth 0 m_Stack__deed (FVar 0) (ACons (FVar 1) (ACons (FTup (ACons (FC (.str "write")) (ACons (FVar 2) ANil))) ANil))))))
def m_Stack___setitem__ : DN := mFn 3 3 b_Stack___setitem__
theorem ok_Stack___setitem__ {A : Ad} (T : Tx P w K mg A) : FnR P w K mg base (L2.CX P w) 13 A.a_Stack___setitem__ (spF ⟨K, A.cl⟩ m_Stack___setitem__) := by
  obtain ⟨fd, F⟩ := T.d_Stack___setitem__.ex
  have sc := sc_Stack___setitem__
  refine fnr_of (fn_ok F sc (cl := A.cl) (B := b_Stack___setitem__) fun cdv A2 outer s H E hr tk => ?_) (F.binds (ps := ["self", "key", "value"]) fun _ _ _ _ _ _ us hl => match us, hl with | [_, _, _], _ => by kernel_rfl)
  have hu := hr.units
  unfold b_Stack___setitem__
  exact (ss_cons (s_expr (f_call (ok_check_key T) (hr.mono (by decide)) tk T.d_check_key.mg T.d_check_key.kp (a_cons (f_var 1) a_nil))) (ss_cons (s_if (t_not (t_val (f_call (ok_is_integer T) (hr.mono (by decide)) tk T.d_is_integer.mg T.d_is_integer.kp (a_cons (f_var 2) a_nil)))) (ss_one s_never) ss_nil) (ss_one (s_expr (f_meth T.f_Stack (ok_Stack__deed T) (hr.mono (by decide)) tk T.me_Stack__deed (by rw [T.e_Stack]; decide) (f_var 0) (a_cons (f_var 1) (a_cons (f_tup (a_cons f_str (a_cons (f_var 2) a_nil))) a_nil)))))))
theorem sc_Stack___getitem__ : FnScope ["self", "key", "value"] ["self", "key"] (defScope s_Stack___getitem__) := ⟨rfl, rfl, rfl, by decide +kernel, rfl, by decide +kernel, by decide +kernel⟩
def b_Stack___getitem__ : Sl → Sto → RS := (SSeq (SAsg (FB (m_seen 4) (ACons (FFld 0 0 (FVar 0)) (ACons (FMeth 0 m_Stack_column (FVar 0) (ACons (FVar 1) ANil)) (ACons (FC (.int 0)) ANil)))) (gN 2)) (SSeq (SIf (TB (F2 (opIsN false) (FVar 2) (FC .non))) (fun _ _ => .bad) SNx) (SRet (FVar 2))))
def m_Stack___getitem__ : DN := mFn 2 3 b_Stack___getitem__
theorem ok_Stack___getitem__ {A : Ad} (T : Tx P w K mg A) : FnR P w K mg base (L2.CX P w) 7 A.a_Stack___getitem__ (spF ⟨K, A.cl⟩ m_Stack___getitem__) := by
  obtain ⟨fd, F⟩ := T.d_Stack___getitem__.ex
  have sc := sc_Stack___getitem__
  refine fnr_of (fn_ok F sc (cl := A.cl) (B := b_Stack___getitem__) fun cdv A2 outer s H E hr tk => ?_) (F.binds (ps := ["self", "key"]) fun _ _ _ _ _ _ us hl => match us, hl with | [_, _], _ => by kernel_rfl)
  have hu := hr.units
  unfold b_Stack___getitem__
  exact (ss_cons (s_set (i := 2) sc.nd (f_call (ok_seen T 4) (hr.mono (by decide)) tk T.d_seen.mg T.d_seen.kp (a_cons (f_fld (i := 0) T.f_Stack (f_var 0) (by rw [T.e_Stack]; rfl)) (a_cons (f_meth T.f_Stack (ok_Stack_column T) (hr.mono (by decide)) tk T.me_Stack_column (by rw [T.e_Stack]; decide) (f_var 0) (a_cons (f_var 1) a_nil)) (a_cons f_int a_nil))))) (ss_cons (s_if (t_cmp op_isN o_isN (f_var 2) f_non (nomark _)) (ss_one s_never) ss_nil) (ss_one (s_ret (f_var 2)))))
theorem sc_are_pairs : FnScope ["thing", "key", "value"] ["thing"] (defScope s_are_pairs) := ⟨rfl, rfl, rfl, by decide +kernel, rfl, by decide +kernel, by decide +kernel⟩
def b_are_pairs : Sl → Sto → RS := (SSeq (SIf (TNot (TB (FIs .dct (FVar 0)))) (SRet (FC (.bl false))) SNx) (SRet (FB fnAll (ACons (FLock 0 (FLc 300 (IIt (FVar 0)) (.two 1 2) TYes (FAnd (FB m_is_integer (ACons (FVar 1) ANil)) (FB m_is_integer (ACons (FVar 2) ANil))) [1, 2])) ANil))))
def m_are_pairs : DN := mFn 1 3 b_are_pairs
theorem ok_are_pairs {A : Ad} (T : Tx P w K mg A) : FnR P w K mg base (L2.CX P w) 2 A.a_are_pairs (spF ⟨K, A.cl⟩ m_are_pairs) := by
  obtain ⟨fd, F, hm⟩ := T.d_are_pairs.ex
  have sc := sc_are_pairs
  refine fnr_of (fn_ok F sc (cl := A.cl) (B := b_are_pairs) fun cdv A2 outer s H E hr tk => ?_) (F.binds (ps := ["thing"]) fun _ _ _ _ _ _ us hl => match us, hl with | [_], _ => by kernel_rfl)
  have hu := hr.units
  unfold b_are_pairs
  exact (ss_cons (s_if (t_not (t_val (f_is T.kC T.k_dict T.n_isinstance T.n_dict (f_var 0)))) (ss_one (s_ret f_bl)) ss_nil) (ss_one (s_ret (f_callB (cr_all rfl) n_all T.n_all (a_cons (f_lock (i := 0) (f_lc (fuel := 300) (t := (.two 1 2)) (own := [("key", 1), ("value", 2)]) rfl sc.nd (j_items (f_var 0)) (blkOk_by (N := ["thing", "key", "value"]) (sc := defScope s_are_pairs) (by decide +kernel)) (fun _ _ _ _ _ => (pg_tup rfl (pgs_cons (pg_name sc.nd rfl (by first | exact Or.inl rfl | exact Or.inr rfl) (by first | exact Or.inl rfl | exact Or.inr rfl)) (pgs_cons (pg_name sc.nd rfl (by first | exact Or.inl rfl | exact Or.inr rfl) (by first | exact Or.inl rfl | exact Or.inr rfl)) pgs_nil rfl) rfl) rfl rfl)) (tg_two (by decide) (by decide)) (fun _ _ _ _ _ => ts_nil) (fun _ _ _ _ _ => (f_and (f_call (ok_is_integer T) (hr.mono (by decide)) tk0 T.d_is_integer.mg T.d_is_integer.kp (a_cons (f_var 1) a_nil)) (f_one (f_call (ok_is_integer T) (hr.mono (by decide)) tk0 T.d_is_integer.mg T.d_is_integer.kp (a_cons (f_var 2) a_nil))))))) a_nil)))))
theorem sc_Stack___ior__ : FnScope ["self", "pairs", "key", "value"] ["self", "pairs"] (defScope s_Stack___ior__) := ⟨rfl, rfl, rfl, by decide +kernel, rfl, by decide +kernel, by decide +kernel⟩
def b_Stack___ior__ : Sl → Sto → RS := (SSeq (SIf (TNot (TB (FB m_are_pairs (ACons (FVar 1) ANil)))) (fun _ _ => .bad) SNx) (SSeq (SLock 1 (SFor 300 (IIt (FVar 1)) (gT 2 [(gN 2), (gN 3)]) (SExp (FMeth 0 m_Stack__deed (FVar 0) (ACons (FVar 2) (ACons (FTup (ACons (FC (.str "write")) (ACons (FVar 3) ANil))) ANil)))))) (SRet (FVar 0))))
def m_Stack___ior__ : DN := mFn 2 4 b_Stack___ior__
theorem ok_Stack___ior__ {A : Ad} (T : Tx P w K mg A) : FnR P w K mg base (L2.CX P w) 13 A.a_Stack___ior__ (spF ⟨K, A.cl⟩ m_Stack___ior__) := by
  obtain ⟨fd, F⟩ := T.d_Stack___ior__.ex
  have sc := sc_Stack___ior__
  refine fnr_of (fn_ok F sc (cl := A.cl) (B := b_Stack___ior__) fun cdv A2 outer s H E hr tk => ?_) (F.binds (ps := ["self", "pairs"]) fun _ _ _ _ _ _ us hl => match us, hl with | [_, _], _ => by kernel_rfl)
  have hu := hr.units
  unfold b_Stack___ior__
  exact (ss_cons (s_if (t_not (t_val (f_call (ok_are_pairs T) (hr.mono (by decide)) tk T.d_are_pairs.mg T.d_are_pairs.kp (a_cons (f_var 1) a_nil)))) (ss_one s_never) ss_nil) (ss_cons (s_lock (i := 1) (s_for (fuel := 300) (passes_of rfl) rfl (j_items (f_var 1)) (g_tup rfl (gs_cons (g_name (i := 2) sc.nd) (gs_cons (g_name (i := 3) sc.nd) gs_nil))) nx_tup (ss_one (s_expr (f_meth T.f_Stack (ok_Stack__deed T) (hr.mono (by decide)) tk T.me_Stack__deed (by rw [T.e_Stack]; decide) (f_var 0) (a_cons (f_var 2) (a_cons (f_tup (a_cons f_str (a_cons (f_var 3) a_nil))) a_nil))))))) (ss_one (s_ret (f_var 0)))))
theorem sc_Stack_held : FnScope ["self"] ["self"] (defScope s_Stack_held) := ⟨rfl, rfl, rfl, by decide +kernel, rfl, by decide +kernel, by decide +kernel⟩
def b_Stack_held : Sl → Sto → RS := (SRet (FB fnSorted (ACons (FB fnList2 (ACons (FFld 0 1 (FVar 0)) ANil)) ANil)))
def m_Stack_held : DN := mFn 1 1 b_Stack_held
theorem ok_Stack_held {A : Ad} (T : Tx P w K mg A) : FnR P w K mg base (L2.CX P w) 1 A.a_Stack_held (spF ⟨K, A.cl⟩ m_Stack_held) := by
  obtain ⟨fd, F⟩ := T.d_Stack_held.ex
  have sc := sc_Stack_held
  refine fnr_of (fn_ok F sc (cl := A.cl) (B := b_Stack_held) fun cdv A2 outer s H E hr tk => ?_) (F.binds (ps := ["self"]) fun _ _ _ _ _ _ us hl => match us, hl with | [_], _ => by kernel_rfl)
  have hu := hr.units
  unfold b_Stack_held
  exact (ss_one (s_ret (f_callB (call_sorted2 rfl) n_sorted T.n_sorted (a_cons (f_callTy (call_list2 rfl) n_list2 T.n_list (a_cons (f_fld (i := 1) T.f_Stack (f_var 0) (by rw [T.e_Stack]; rfl)) a_nil)) a_nil))))
theorem sc_Stack_visible : FnScope ["self", "key"] ["self"] (defScope s_Stack_visible) := ⟨rfl, rfl, rfl, by decide +kernel, rfl, by decide +kernel, by decide +kernel⟩
def b_Stack_visible : Sl → Sto → RS := (SRet (FLc 300 (ILs (FMeth0 0 m_Stack_held (FVar 0))) (.one 1) (TB (FOwnIn 0 m_Stack___contains__ (FVar 1) (FVar 0))) (FVar 1) [1]))
def m_Stack_visible : DN := mFn 1 2 b_Stack_visible
theorem ok_Stack_visible {A : Ad} (T : Tx P w K mg A) : FnR P w K mg base (L2.CX P w) 8 A.a_Stack_visible (spF ⟨K, A.cl⟩ m_Stack_visible) := by
  obtain ⟨fd, F⟩ := T.d_Stack_visible.ex
  have sc := sc_Stack_visible
  refine fnr_of (fn_ok F sc (cl := A.cl) (B := b_Stack_visible) fun cdv A2 outer s H E hr tk => ?_) (F.binds (ps := ["self"]) fun _ _ _ _ _ _ us hl => match us, hl with | [_], _ => by kernel_rfl)
  have hu := hr.units
  unfold b_Stack_visible
  exact (ss_one (s_ret (f_lc (fuel := 300) (t := (.one 1)) (own := [("key", 1)]) rfl sc.nd (j_list (f_meth0 T.f_Stack (ok_Stack_held T) (hr.mono (by decide)) tk T.me_Stack_held (by rw [T.e_Stack]; decide) (f_var 0))) (blkOk_by (N := ["self", "key"]) (sc := defScope s_Stack_visible) (by decide +kernel)) (fun _ _ _ _ _ => (pg_name sc.nd rfl (by first | exact Or.inl rfl | exact Or.inr rfl) (by first | exact Or.inl rfl | exact Or.inr rfl))) (tg_one (by decide)) (fun _ _ _ _ _ => (ts_one (t_own_in T.ow_Stack___contains__ (ok_Stack___contains__ T) (hr.mono (by decide)) tk0 (f_var 1) (f_var 0)))) (fun _ _ _ _ _ => (f_var 1)))))
theorem sc_Stack_forget : FnScope ["self", "key"] ["self", "key"] (defScope s_Stack_forget) := ⟨rfl, rfl, rfl, by decide +kernel, rfl, by decide +kernel, by decide +kernel⟩
def b_Stack_forget : Sl → Sto → RS := (SRet (FMeth 0 m_Stack__deed (FVar 0) (ACons (FVar 1) (ACons (FTup (ACons (FC (.str "forget")) ANil)) ANil))))
def m_Stack_forget : DN := mFn 2 2 b_Stack_forget
theorem ok_Stack_forget {A : Ad} (T : Tx P w K mg A) : FnR P w K mg base (L2.CX P w) 13 A.a_Stack_forget (spF ⟨K, A.cl⟩ m_Stack_forget) := by
  obtain ⟨fd, F⟩ := T.d_Stack_forget.ex
  have sc := sc_Stack_forget
  refine fnr_of (fn_ok F sc (cl := A.cl) (B := b_Stack_forget) fun cdv A2 outer s H E hr tk => ?_) (F.binds (ps := ["self", "key"]) fun _ _ _ _ _ _ us hl => match us, hl with | [_, _], _ => by kernel_rfl)
  have hu := hr.units
  unfold b_Stack_forget
  exact (ss_one (s_ret (f_meth T.f_Stack (ok_Stack__deed T) (hr.mono (by decide)) tk T.me_Stack__deed (by rw [T.e_Stack]; decide) (f_var 0) (a_cons (f_var 1) (a_cons (f_tup (a_cons f_str a_nil)) a_nil)))))
theorem sc__law_deeds_right : FnScope ["many", "plain", "cache", "found", "maker", "hiding", "both"] ["many"] (defScope s__law_deeds_right) := ⟨rfl, rfl, rfl, by decide +kernel, rfl, by decide +kernel, by decide +kernel⟩
def b__law_deeds_right : Sl → Sto → RS := (SSeq (SAsg (FTup (ACons (FC (.str "here")) (ACons (FC (.str "here")) (ACons (FC (.str "look")) (ACons (FC .non) ANil))))) (gN 1)) (SSeq (SAsg (FB (mNew 0 m_Stack___init__) (ACons (FTup (ACons (FTup (ACons (FC (.str "here")) (ACons (FC (.str "here")) (ACons (FC (.str "keep")) (ACons (FC .non) ANil))))) (ACons (FTup (ACons (FC (.str "here")) (ACons (FC (.str "here")) (ACons (FC (.str "look")) (ACons (FTup (ACons (FC (.str "told")) (ACons (FC (.int 0)) ANil))) ANil))))) ANil))) (ACons (FTup (ACons (fun _ S => newDct S) (ACons (FDisp1 (FC (.int 5)) (FVar 0)) ANil))) ANil))) (gN 2)) (SSeq (SAsg (FMeth 0 m_Stack_do (FVar 2) (ACons (FC (.int 5)) (ACons (FTup (ACons (FC (.str "ask")) ANil)) (ACons (FTup (ACons (FC (.str "beneath")) (ACons (FC (.int 9)) ANil))) (ACons (FTup (ACons (FC (.str "ask")) ANil)) (ACons (FTup (ACons (FC (.str "forget")) ANil)) (ACons (FTup (ACons (FC (.str "has")) ANil)) (ACons (FTup (ACons (FC (.str "ask")) ANil)) ANil)))))))) (gN 3)) (SSeq (SIf (TB (F2 (opEqB true) (FVar 3) (FLst (ACons (FVar 0) (ACons (FC .non) (ACons (FVar 0) (ACons (FC (.bl true)) (ACons (FC (.bl true)) (ACons (FC (.int 9)) ANil))))))))) (SRet (FC (.bl false))) SNx) (SSeq (SIf (TOr (TGc (TB (F2 (opEqB true) (FMeth 0 m_Stack_do (FVar 2) (ACons (FC (.int 6)) (ACons (FTup (ACons (FC (.str "has")) ANil)) (ACons (FTup (ACons (FC (.str "ask")) ANil)) (ACons (FTup (ACons (FC (.str "has")) ANil)) ANil))))) (FLst (ACons (FC (.bl false)) (ACons (FC (.int 0)) (ACons (FC (.bl true)) ANil))))))) (TGc (TB (F2 (opEqB true) (FMeth 0 m_Stack_column (FVar 2) (ACons (FC (.int 6)) ANil)) (FTup (ACons (FC (.int 0)) (ACons (FC .non) ANil))))))) (SRet (FC (.bl false))) SNx) (SSeq (SAsg (FB (fun ds S => m_Stack_of (.cls 0 :: ds) S) (ACons (FTup (ACons (FC (.str "down")) (ACons (FC (.str "both")) (ACons (FC (.str "shut")) (ACons (FTup (ACons (FC (.str "made")) (ACons (FC (.int 1)) ANil))) ANil))))) (ACons (FTup (ACons (FC (.str "both")) (ACons (FC (.str "down")) (ACons (FC (.str "keep")) (ACons (FTup (ACons (FC (.str "told")) (ACons (FC (.int 0)) ANil))) ANil))))) (ACons (FVar 1) ANil)))) (gN 4)) (SSeq (SIf (TOr (TGc (TB (F2 (opEqB true) (FMeth 0 m_Stack_do (FVar 4) (ACons (FVar 0) (ACons (FTup (ACons (FC (.str "ask")) ANil)) (ACons (FTup (ACons (FC (.str "has")) ANil)) (ACons (FTup (ACons (FC (.str "ask")) ANil)) ANil))))) (FLst (ACons (FC (.int 1)) (ACons (FC (.bl false)) (ACons (FC (.int 1)) ANil))))))) (TGc (TB (F2 (opEqB true) (FMeth 0 m_Stack_column (FVar 4) (ACons (FVar 0) ANil)) (FTup (ACons (FC .non) (ACons (FC (.int 1)) (ACons (FC (.int 1)) ANil)))))))) (SRet (FC (.bl false))) SNx) (SSeq (SIf (TGc (TB (F2 (opEqB true) (FMeth 0 m_Stack_do (FVar 4) (ACons (FVar 0) (ACons (FTup (ACons (FC (.str "forget")) ANil)) (ACons (FTup (ACons (FC (.str "write")) (ACons (FC (.int 7)) ANil))) (ACons (FTup (ACons (FC (.str "forget")) ANil)) ANil))))) (FLst (ACons (FC (.bl true)) (ACons (FC .non) (ACons (FC (.bl true)) ANil))))))) (SRet (FC (.bl false))) SNx) (SSeq (SIf (TGc (TB (F2 (opEqB true) (FMeth 0 m_Stack_column (FVar 4) (ACons (FVar 0) ANil)) (FTup (ACons (FC .non) (ACons (FC (.int 7)) (ACons (FC .non) ANil))))))) (SRet (FC (.bl false))) SNx) (SSeq (SAsg (FB (mNew 0 m_Stack___init__) (ACons (FTup (ACons (FTup (ACons (FC (.str "here")) (ACons (FC (.str "hide")) (ACons (FC (.str "look")) (ACons (FTup (ACons (FC (.str "told")) (ACons (FC (.int 1)) ANil))) ANil))))) (ACons (FVar 1) ANil))) (ACons (FTup (ACons (fun _ S => newDct S) (ACons (FDisp1 (FVar 0) (FC (.int 4))) ANil))) ANil))) (gN 5)) (SSeq (SAsg (FMeth 0 m_Stack_do (FVar 5) (ACons (FVar 0) (ACons (FTup (ACons (FC (.str "forget")) ANil)) (ACons (FTup (ACons (FC (.str "ask")) ANil)) (ACons (FTup (ACons (FC (.str "has")) ANil)) (ACons (FTup (ACons (FC (.str "forget")) ANil)) (ACons (FTup (ACons (FC (.str "beneath")) (ACons (FC (.int 5)) ANil))) ANil))))))) (gN 3)) (SSeq (SIf (TOr (TB (F2 (opEqB true) (FVar 3) (FLst (ACons (FC (.bl true)) (ACons (FC (.int 1)) (ACons (FC (.bl false)) (ACons (FC (.bl false)) (ACons (FC .non) ANil)))))))) (TOr (TGc (TB (F2 (opEqB true) (FMeth 0 m_Stack_column (FVar 5) (ACons (FVar 0) ANil)) (FTup (ACons (FC (.str "hidden")) (ACons (FC (.int 5)) ANil)))))) (TB (FOwnIn 0 m_Stack___contains__ (FVar 0) (FVar 5))))) (SRet (FC (.bl false))) SNx) (SSeq (SAsg (FC (.int 4)) (gOwn 0 m_Stack___setitem__ (FVar 5) (FVar 0))) (SSeq (SIf (TOr (TB (F2 (opEqB true) (FOwnIx 0 m_Stack___getitem__ (FVar 5) (FVar 0)) (FC (.int 4)))) (TGc (TB (F2 (opEqB true) (FMeth 0 m_Stack_do (FVar 5) (ACons (FVar 0) (ACons (FTup (ACons (FC (.str "forget")) ANil)) (ACons (FTup (ACons (FC (.str "has")) ANil)) ANil)))) (FLst (ACons (FC (.bl true)) (ACons (FC (.bl false)) ANil))))))) (SRet (FC (.bl false))) SNx) (SSeq (SAsg (FB (mNew 0 m_Stack___init__) (ACons (FTup (ACons (FTup (ACons (FC (.str "both")) (ACons (FC (.str "both")) (ACons (FC (.str "look")) (ACons (FC .non) ANil))))) (ACons (FTup (ACons (FC (.str "here")) (ACons (FC (.str "hide")) (ACons (FC (.str "look")) (ACons (FC .non) ANil))))) ANil))) (ACons (FTup (ACons (FDisp1 (FVar 0) (FC (.int 2))) (ACons (fun _ S => newDct S) ANil))) ANil))) (gN 6)) (SSeq (SIf (TOr (TGc (TB (F2 (opEqB true) (FMeth 0 m_Stack_do (FVar 6) (ACons (FVar 0) (ACons (FTup (ACons (FC (.str "forget")) ANil)) (ACons (FTup (ACons (FC (.str "forget")) ANil)) ANil)))) (FLst (ACons (FC (.bl true)) (ACons (FC (.bl false)) ANil)))))) (TGc (TB (F2 (opEqB true) (FMeth 0 m_Stack_column (FVar 6) (ACons (FVar 0) ANil)) (FTup (ACons (FC .non) (ACons (FC .non) ANil))))))) (SRet (FC (.bl false))) SNx) (SSeq (SIor 0 6 m_Stack___ior__ (FDispK [((FVar 0), (FC (.int 3))), ((F2 opAdd (FVar 0) (FC (.int 1))), (FC (.int 4)))])) (SSeq (SIf (TOr (TGc (TB (F2 (opEqB true) (FMeth 0 m_Stack_column (FVar 6) (ACons (FVar 0) ANil)) (FTup (ACons (FC (.int 3)) (ACons (FC (.int 3)) ANil)))))) (TOr (TGc (TB (F2 (opEqB true) (FMeth0 0 m_Stack_visible (FVar 6)) (FLst (ACons (FVar 0) (ACons (F2 opAdd (FVar 0) (FC (.int 1))) ANil)))))) (TNot (TGc (TB (FMeth 0 m_Stack_forget (FVar 6) (ACons (F2 opAdd (FVar 0) (FC (.int 1))) ANil))))))) (SRet (FC (.bl false))) SNx) (SRet (FAnd (F2 (opEqB false) (FMeth 0 m_Stack_column (FVar 6) (ACons (F2 opAdd (FVar 0) (FC (.int 1))) ANil)) (FTup (ACons (FC .non) (ACons (FC (.str "hidden")) ANil)))) (F2 (opEqB false) (FMeth0 0 m_Stack_visible (FVar 6)) (FLst (ACons (FVar 0) ANil)))))))))))))))))))))))
def m__law_deeds_right : DN := mFn 1 7 b__law_deeds_right
theorem ok__law_deeds_right {A : Ad} (T : Tx P w K mg A) : FnR P w K mg base (L2.CX P w) 14 A.a__law_deeds_right (spF ⟨K, A.cl⟩ m__law_deeds_right) := by
  obtain ⟨fd, F, hm⟩ := T.d__law_deeds_right.ex
  have sc := sc__law_deeds_right
  refine fnr_of (fn_ok F sc (cl := A.cl) (B := b__law_deeds_right) fun cdv A2 outer s H E hr tk => ?_) (F.binds (ps := ["many"]) fun _ _ _ _ _ _ us hl => match us, hl with | [_], _ => by kernel_rfl)
  have hu := hr.units
  unfold b__law_deeds_right
  exact (ss_cons (s_set (i := 1) sc.nd (f_tup (a_cons f_str (a_cons f_str (a_cons f_str (a_cons f_non a_nil)))))) (ss_cons (s_set (i := 2) sc.nd (f_new T.mk_Stack (ok_Stack___init__ T) (hr.mono (by decide)) tk T.g_Stack (a_cons (f_tup (a_cons (f_tup (a_cons f_str (a_cons f_str (a_cons f_str (a_cons f_non a_nil))))) (a_cons (f_tup (a_cons f_str (a_cons f_str (a_cons f_str (a_cons (f_tup (a_cons f_str (a_cons f_int a_nil))) a_nil))))) a_nil))) (a_cons (f_tup (a_cons f_dnew (a_cons (f_disp1 f_int (f_var 0)) a_nil))) a_nil)))) (ss_cons (s_set (i := 3) sc.nd (f_meth T.f_Stack (ok_Stack_do T) (hr.mono (by decide)) tk T.me_Stack_do (by rw [T.e_Stack]; decide) (f_var 2) (a_cons f_int (a_cons (f_tup (a_cons f_str a_nil)) (a_cons (f_tup (a_cons f_str (a_cons f_int a_nil))) (a_cons (f_tup (a_cons f_str a_nil)) (a_cons (f_tup (a_cons f_str a_nil)) (a_cons (f_tup (a_cons f_str a_nil)) (a_cons (f_tup (a_cons f_str a_nil)) a_nil))))))))) (ss_cons (s_if (t_cmp (op_neD hu) o_ne (f_var 3) (f_lst (a_cons (f_var 0) (a_cons f_non (a_cons (f_var 0) (a_cons f_bl (a_cons f_bl (a_cons f_int a_nil))))))) (nomark _)) (ss_one (s_ret f_bl)) ss_nil) (ss_cons (s_if (PW.pt (w_or (t_gc (t_cmp (op_neD hu) o_ne (f_meth T.f_Stack (ok_Stack_do T) (hr.mono (by decide)) tk T.me_Stack_do (by rw [T.e_Stack]; decide) (f_var 2) (a_cons f_int (a_cons (f_tup (a_cons f_str a_nil)) (a_cons (f_tup (a_cons f_str a_nil)) (a_cons (f_tup (a_cons f_str a_nil)) a_nil))))) (f_lst (a_cons f_bl (a_cons f_int (a_cons f_bl a_nil)))) (nomark _))) (w_or1 (t_gc (t_cmp (op_neD hu) o_ne (f_meth T.f_Stack (ok_Stack_column T) (hr.mono (by decide)) tk T.me_Stack_column (by rw [T.e_Stack]; decide) (f_var 2) (a_cons f_int a_nil)) (f_tup (a_cons f_int (a_cons f_non a_nil))) (nomark _)))))) (ss_one (s_ret f_bl)) ss_nil) (ss_cons (s_set (i := 4) sc.nd (f_cmeth (c := 0) T.cr_Stack T.cm_Stack_of (ok_Stack_of T) (hr.mono (by decide)) tk T.g_Stack (a_cons (f_tup (a_cons f_str (a_cons f_str (a_cons f_str (a_cons (f_tup (a_cons f_str (a_cons f_int a_nil))) a_nil))))) (a_cons (f_tup (a_cons f_str (a_cons f_str (a_cons f_str (a_cons (f_tup (a_cons f_str (a_cons f_int a_nil))) a_nil))))) (a_cons (f_var 1) a_nil))))) (ss_cons (s_if (PW.pt (w_or (t_gc (t_cmp (op_neD hu) o_ne (f_meth T.f_Stack (ok_Stack_do T) (hr.mono (by decide)) tk T.me_Stack_do (by rw [T.e_Stack]; decide) (f_var 4) (a_cons (f_var 0) (a_cons (f_tup (a_cons f_str a_nil)) (a_cons (f_tup (a_cons f_str a_nil)) (a_cons (f_tup (a_cons f_str a_nil)) a_nil))))) (f_lst (a_cons f_int (a_cons f_bl (a_cons f_int a_nil)))) (nomark _))) (w_or1 (t_gc (t_cmp (op_neD hu) o_ne (f_meth T.f_Stack (ok_Stack_column T) (hr.mono (by decide)) tk T.me_Stack_column (by rw [T.e_Stack]; decide) (f_var 4) (a_cons (f_var 0) a_nil)) (f_tup (a_cons f_non (a_cons f_int (a_cons f_int a_nil)))) (nomark _)))))) (ss_one (s_ret f_bl)) ss_nil) (ss_cons (s_if (t_gc (t_cmp (op_neD hu) o_ne (f_meth T.f_Stack (ok_Stack_do T) (hr.mono (by decide)) tk T.me_Stack_do (by rw [T.e_Stack]; decide) (f_var 4) (a_cons (f_var 0) (a_cons (f_tup (a_cons f_str a_nil)) (a_cons (f_tup (a_cons f_str (a_cons f_int a_nil))) (a_cons (f_tup (a_cons f_str a_nil)) a_nil))))) (f_lst (a_cons f_bl (a_cons f_non (a_cons f_bl a_nil)))) (nomark _))) (ss_one (s_ret f_bl)) ss_nil) (ss_cons (s_if (t_gc (t_cmp (op_neD hu) o_ne (f_meth T.f_Stack (ok_Stack_column T) (hr.mono (by decide)) tk T.me_Stack_column (by rw [T.e_Stack]; decide) (f_var 4) (a_cons (f_var 0) a_nil)) (f_tup (a_cons f_non (a_cons f_int (a_cons f_non a_nil)))) (nomark _))) (ss_one (s_ret f_bl)) ss_nil) (ss_cons (s_set (i := 5) sc.nd (f_new T.mk_Stack (ok_Stack___init__ T) (hr.mono (by decide)) tk T.g_Stack (a_cons (f_tup (a_cons (f_tup (a_cons f_str (a_cons f_str (a_cons f_str (a_cons (f_tup (a_cons f_str (a_cons f_int a_nil))) a_nil))))) (a_cons (f_var 1) a_nil))) (a_cons (f_tup (a_cons f_dnew (a_cons (f_disp1 (f_var 0) f_int) a_nil))) a_nil)))) (ss_cons (s_set (i := 3) sc.nd (f_meth T.f_Stack (ok_Stack_do T) (hr.mono (by decide)) tk T.me_Stack_do (by rw [T.e_Stack]; decide) (f_var 5) (a_cons (f_var 0) (a_cons (f_tup (a_cons f_str a_nil)) (a_cons (f_tup (a_cons f_str a_nil)) (a_cons (f_tup (a_cons f_str a_nil)) (a_cons (f_tup (a_cons f_str a_nil)) (a_cons (f_tup (a_cons f_str (a_cons f_int a_nil))) a_nil)))))))) (ss_cons (s_if (PW.pt (w_or (t_cmp (op_neD hu) o_ne (f_var 3) (f_lst (a_cons f_bl (a_cons f_int (a_cons f_bl (a_cons f_bl (a_cons f_non a_nil)))))) (nomark _)) (w_or (t_gc (t_cmp (op_neD hu) o_ne (f_meth T.f_Stack (ok_Stack_column T) (hr.mono (by decide)) tk T.me_Stack_column (by rw [T.e_Stack]; decide) (f_var 5) (a_cons (f_var 0) a_nil)) (f_tup (a_cons f_str (a_cons f_int a_nil))) (nomark _))) (w_or1 (t_own_in T.ow_Stack___contains__ (ok_Stack___contains__ T) (hr.mono (by decide)) tk (f_var 0) (f_var 5)))))) (ss_one (s_ret f_bl)) ss_nil) (ss_cons (s_asg f_int (g_own T.ow_Stack___setitem__ T.nq_Stack (ok_Stack___setitem__ T) (hr.mono (by decide)) tk (f_var 5) (f_var 0)) nx_own) (ss_cons (s_if (PW.pt (w_or (t_cmp (op_neD hu) o_ne (f_own_ix T.ow_Stack___getitem__ T.fi_Stack___getitem__ (ok_Stack___getitem__ T) (hr.mono (by decide)) tk (f_var 5) (f_var 0)) f_int (nomark _)) (w_or1 (t_gc (t_cmp (op_neD hu) o_ne (f_meth T.f_Stack (ok_Stack_do T) (hr.mono (by decide)) tk T.me_Stack_do (by rw [T.e_Stack]; decide) (f_var 5) (a_cons (f_var 0) (a_cons (f_tup (a_cons f_str a_nil)) (a_cons (f_tup (a_cons f_str a_nil)) a_nil)))) (f_lst (a_cons f_bl (a_cons f_bl a_nil))) (nomark _)))))) (ss_one (s_ret f_bl)) ss_nil) (ss_cons (s_set (i := 6) sc.nd (f_new T.mk_Stack (ok_Stack___init__ T) (hr.mono (by decide)) tk T.g_Stack (a_cons (f_tup (a_cons (f_tup (a_cons f_str (a_cons f_str (a_cons f_str (a_cons f_non a_nil))))) (a_cons (f_tup (a_cons f_str (a_cons f_str (a_cons f_str (a_cons f_non a_nil))))) a_nil))) (a_cons (f_tup (a_cons (f_disp1 (f_var 0) f_int) (a_cons f_dnew a_nil))) a_nil)))) (ss_cons (s_if (PW.pt (w_or (t_gc (t_cmp (op_neD hu) o_ne (f_meth T.f_Stack (ok_Stack_do T) (hr.mono (by decide)) tk T.me_Stack_do (by rw [T.e_Stack]; decide) (f_var 6) (a_cons (f_var 0) (a_cons (f_tup (a_cons f_str a_nil)) (a_cons (f_tup (a_cons f_str a_nil)) a_nil)))) (f_lst (a_cons f_bl (a_cons f_bl a_nil))) (nomark _))) (w_or1 (t_gc (t_cmp (op_neD hu) o_ne (f_meth T.f_Stack (ok_Stack_column T) (hr.mono (by decide)) tk T.me_Stack_column (by rw [T.e_Stack]; decide) (f_var 6) (a_cons (f_var 0) a_nil)) (f_tup (a_cons f_non (a_cons f_non a_nil))) (nomark _)))))) (ss_one (s_ret f_bl)) ss_nil) (ss_cons (s_ior (i := 6) T.ow_Stack___ior__ T.sf_Stack (ok_Stack___ior__ T) (hr.mono (by decide)) tk sc.nd (f_dispK (pps_cons (f_var 0) f_int (pps_cons (f_op op_add3 o_add (f_var 0) f_int) f_int pps_nil)) (.cons (.cons .nil)))) (ss_cons (s_if (PW.pt (w_or (t_gc (t_cmp (op_neD hu) o_ne (f_meth T.f_Stack (ok_Stack_column T) (hr.mono (by decide)) tk T.me_Stack_column (by rw [T.e_Stack]; decide) (f_var 6) (a_cons (f_var 0) a_nil)) (f_tup (a_cons f_int (a_cons f_int a_nil))) (nomark _))) (w_or (t_gc (t_cmp (op_neD hu) o_ne (f_meth0 T.f_Stack (ok_Stack_visible T) (hr.mono (by decide)) tk T.me_Stack_visible (by rw [T.e_Stack]; decide) (f_var 6)) (f_lst (a_cons (f_var 0) (a_cons (f_op op_add3 o_add (f_var 0) f_int) a_nil))) (nomark _))) (w_or1 (t_not (t_gc (t_val (f_meth T.f_Stack (ok_Stack_forget T) (hr.mono (by decide)) tk T.me_Stack_forget (by rw [T.e_Stack]; decide) (f_var 6) (a_cons (f_op op_add3 o_add (f_var 0) f_int) a_nil))))))))) (ss_one (s_ret f_bl)) ss_nil) (ss_one (s_ret (f_and (f_cmp (op_eqD hu) o_eq (f_meth T.f_Stack (ok_Stack_column T) (hr.mono (by decide)) tk T.me_Stack_column (by rw [T.e_Stack]; decide) (f_var 6) (a_cons (f_op op_add3 o_add (f_var 0) f_int) a_nil)) (f_tup (a_cons f_non (a_cons f_str a_nil))) (nomark _)) (f_one (f_cmp (op_eqD hu) o_eq (f_meth0 T.f_Stack (ok_Stack_visible T) (hr.mono (by decide)) tk T.me_Stack_visible (by rw [T.e_Stack]; decide) (f_var 6)) (f_lst (a_cons (f_var 0) a_nil)) (nomark _))))))))))))))))))))))))
theorem sc_Parts___len__ : FnScope ["self"] ["self"] (defScope s_Parts___len__) := ⟨rfl, rfl, rfl, by decide +kernel, rfl, by decide +kernel, by decide +kernel⟩
def b_Parts___len__ : Sl → Sto → RS := (SRet (FB fnLen (ACons (FFld 2 1 (FVar 0)) ANil)))
def m_Parts___len__ : DN := mFn 1 1 b_Parts___len__
theorem ok_Parts___len__ {A : Ad} (T : Tx P w K mg A) : FnR P w K mg base (L2.CX P w) 1 A.a_Parts___len__ (spF ⟨K, A.cl⟩ m_Parts___len__) := by
  obtain ⟨fd, F⟩ := T.d_Parts___len__.ex
  have sc := sc_Parts___len__
  refine fnr_of (fn_ok F sc (cl := A.cl) (B := b_Parts___len__) fun cdv A2 outer s H E hr tk => ?_) (F.binds (ps := ["self"]) fun _ _ _ _ _ _ us hl => match us, hl with | [_], _ => by kernel_rfl)
  have hu := hr.units
  unfold b_Parts___len__
  exact (ss_one (s_ret (f_callB call_len2 n_len T.n_len (a_cons (f_fld (i := 1) T.f_Parts (f_var 0) (by rw [T.e_Parts]; rfl)) a_nil))))
theorem sc_count_of_deeds : FnScope ["found"] ["found"] (defScope s_count_of_deeds) := ⟨rfl, rfl, rfl, by decide +kernel, rfl, by decide +kernel, by decide +kernel⟩
def b_count_of_deeds : Sl → Sto → RS := (SRet (FIf (TB (FIsC 4 2 (FVar 0))) (FB (fnOwnLen 2 m_Parts___len__) (ACons (FVar 0) ANil)) (FC .non)))
def m_count_of_deeds : DN := mFn 1 1 b_count_of_deeds
theorem ok_count_of_deeds {A : Ad} (T : Tx P w K mg A) : FnR P w K mg base (L2.CX P w) 3 A.a_count_of_deeds (spF ⟨K, A.cl⟩ m_count_of_deeds) := by
  obtain ⟨fd, F, hm⟩ := T.d_count_of_deeds.ex
  have sc := sc_count_of_deeds
  refine fnr_of (fn_ok F sc (cl := A.cl) (B := b_count_of_deeds) fun cdv A2 outer s H E hr tk => ?_) (F.binds (ps := ["found"]) fun _ _ _ _ _ _ us hl => match us, hl with | [_], _ => by kernel_rfl)
  have hu := hr.units
  unfold b_count_of_deeds
  exact (ss_one (s_ret (f_if (t_val (f_isC T.kC T.i_Parts T.n_isinstance T.g_Parts (f_var 0))) (f_callB (call_ownLen T.ow_Parts___len__ (ok_Parts___len__ T) (hr.mono (by decide))) n_ownLen T.n_len (a_cons (f_var 0) a_nil)) f_non)))
theorem sc_check_stack : FnScope ["stack"] ["stack"] (defScope s_check_stack) := ⟨rfl, rfl, rfl, by decide +kernel, rfl, by decide +kernel, by decide +kernel⟩
def b_check_stack : Sl → Sto → RS := (SIf (TNot (TB (FIsC 4 0 (FVar 0)))) (fun _ _ => .bad) SNx)
def m_check_stack : DN := mFn 1 1 b_check_stack
theorem ok_check_stack {A : Ad} (T : Tx P w K mg A) : FnR P w K mg base (L2.CX P w) 1 A.a_check_stack (spF ⟨K, A.cl⟩ m_check_stack) := by
  obtain ⟨fd, F, hm⟩ := T.d_check_stack.ex
  have sc := sc_check_stack
  refine fnr_of (fn_ok F sc (cl := A.cl) (B := b_check_stack) fun cdv A2 outer s H E hr tk => ?_) (F.binds (ps := ["stack"]) fun _ _ _ _ _ _ us hl => match us, hl with | [_], _ => by kernel_rfl)
  have hu := hr.units
  unfold b_check_stack
  exact (ss_one (s_if (t_not (t_val (f_isC T.kC T.i_Stack T.n_isinstance T.g_Stack (f_var 0)))) (ss_one s_never) ss_nil))
theorem sc_check_both : FnScope ["one", "other"] ["one", "other"] (defScope s_check_both) := ⟨rfl, rfl, rfl, by decide +kernel, rfl, by decide +kernel, by decide +kernel⟩
def b_check_both : Sl → Sto → RS := (SSeq (SExp (FB m_check_stack (ACons (FVar 0) ANil))) (SExp (FB m_check_stack (ACons (FVar 1) ANil))))
def m_check_both : DN := mFn 2 2 b_check_both
theorem ok_check_both {A : Ad} (T : Tx P w K mg A) : FnR P w K mg base (L2.CX P w) 2 A.a_check_both (spF ⟨K, A.cl⟩ m_check_both) := by
  obtain ⟨fd, F, hm⟩ := T.d_check_both.ex
  have sc := sc_check_both
  refine fnr_of (fn_ok F sc (cl := A.cl) (B := b_check_both) fun cdv A2 outer s H E hr tk => ?_) (F.binds (ps := ["one", "other"]) fun _ _ _ _ _ _ us hl => match us, hl with | [_, _], _ => by kernel_rfl)
  have hu := hr.units
  unfold b_check_both
  exact (ss_cons (s_expr (f_call (ok_check_stack T) (hr.mono (by decide)) tk T.d_check_stack.mg T.d_check_stack.kp (a_cons (f_var 0) a_nil))) (ss_one (s_expr (f_call (ok_check_stack T) (hr.mono (by decide)) tk T.d_check_stack.mg T.d_check_stack.kp (a_cons (f_var 1) a_nil)))))
theorem sc_Stack_layers : FnScope ["self"] ["self"] (defScope s_Stack_layers) := ⟨rfl, rfl, rfl, by decide +kernel, rfl, by decide +kernel, by decide +kernel⟩
def b_Stack_layers : Sl → Sto → RS := (SRet (FFld 0 0 (FVar 0)))
def m_Stack_layers : DN := mFn 1 1 b_Stack_layers
theorem ok_Stack_layers {A : Ad} (T : Tx P w K mg A) : ∃ fd, FnOk P w K mg base (L2.CX P w) 1 A.a_Stack_layers fd ["self"] (spF ⟨K, A.cl⟩ m_Stack_layers) ∧ Binds K fd ["self"] [] := by
  obtain ⟨fd, F⟩ := T.d_Stack_layers.ex
  have sc := sc_Stack_layers
  refine ⟨fd, fn_ok F sc (cl := A.cl) (B := b_Stack_layers) fun cdv A2 outer s H E hr tk => ?_, (F.binds (ps := ["self"]) fun _ _ _ _ _ _ us hl => match us, hl with | [_], _ => by kernel_rfl)⟩
  have hu := hr.units
  unfold b_Stack_layers
  exact (ss_one (s_ret (f_fld (i := 0) T.f_Stack (f_var 0) (by rw [T.e_Stack]; rfl))))
theorem sc_pair_after : FnScope ["one", "other", "pair", "deed", "answer", "column", "reply", "opposite"] ["one", "other", "pair", "deed"] (defScope s_pair_after) := ⟨rfl, rfl, rfl, by decide +kernel, rfl, by decide +kernel, by decide +kernel⟩
def b_pair_after : Sl → Sto → RS := (SSeq (SAsg (FB m_done (ACons (FProp 0 m_Stack_layers (FVar 0)) (ACons (F2 opIx (FVar 2) (FC (.int 0))) (ACons (FVar 3) ANil)))) (gT 2 [(gN 4), (gN 5)])) (SSeq (SAsg (FB m_done (ACons (FProp 0 m_Stack_layers (FVar 1)) (ACons (F2 opIx (FVar 2) (FC (.int 1))) (ACons (FVar 3) ANil)))) (gT 2 [(gN 6), (gN 7)])) (SRet (FIf (TB (F2 (opEqB false) (FVar 4) (FVar 6))) (FTup (ACons (FVar 5) (ACons (FVar 7) ANil))) (FC .non)))))
def m_pair_after : DN := mFn 4 8 b_pair_after
theorem ok_pair_after {A : Ad} (T : Tx P w K mg A) : FnR P w K mg base (L2.CX P w) 12 A.a_pair_after (spF ⟨K, A.cl⟩ m_pair_after) := by
  obtain ⟨fd, F, hm⟩ := T.d_pair_after.ex
  have sc := sc_pair_after
  refine fnr_of (fn_ok F sc (cl := A.cl) (B := b_pair_after) fun cdv A2 outer s H E hr tk => ?_) (F.binds (ps := ["one", "other", "pair", "deed"]) fun _ _ _ _ _ _ us hl => match us, hl with | [_, _, _, _], _ => by kernel_rfl)
  have hu := hr.units
  unfold b_pair_after
  exact (ss_cons (s_asg (f_call (ok_done T) (hr.mono (by decide)) tk T.d_done.mg T.d_done.kp (a_cons (Exists.elim (ok_Stack_layers T) fun _ h => f_propM T.f_Stack T.pr_Stack_layers h.1 (hr.mono (by decide)) h.2 (f_var 0)) (a_cons (f_ix (f_var 2) f_int) (a_cons (f_var 3) a_nil)))) (g_tup rfl (gs_cons (g_name (i := 4) sc.nd) (gs_cons (g_name (i := 5) sc.nd) gs_nil))) nx_tup) (ss_cons (s_asg (f_call (ok_done T) (hr.mono (by decide)) tk T.d_done.mg T.d_done.kp (a_cons (Exists.elim (ok_Stack_layers T) fun _ h => f_propM T.f_Stack T.pr_Stack_layers h.1 (hr.mono (by decide)) h.2 (f_var 1)) (a_cons (f_ix (f_var 2) f_int) (a_cons (f_var 3) a_nil)))) (g_tup rfl (gs_cons (g_name (i := 6) sc.nd) (gs_cons (g_name (i := 7) sc.nd) gs_nil))) nx_tup) (ss_one (s_ret (f_if (t_cmp (op_eqD hu) o_eq (f_var 4) (f_var 6) (nomark _)) (f_tup (a_cons (f_var 5) (a_cons (f_var 7) a_nil))) f_non)))))
end
end K6
set_option Elab.async false
set_option autoImplicit false
set_option linter.all false
set_option maxRecDepth 100000
set_option maxHeartbeats 4000000
namespace K6
open PySem L2 Mi
section
variable {P : Program} {w : World} {K : PySem.W.Frag} {mg : Str → Option Value} {base : Heap}
theorem sc_Parts___init__ : FnScope ["self", "key", "deeds"] ["self", "key", "deeds"] (defScope s_Parts___init__) := ⟨rfl, rfl, rfl, by decide +kernel, rfl, by decide +kernel, by decide +kernel⟩
def b_Parts___init__ : Sl → Sto → RS := (SSeq (SFld 2 0 (FVar 0) (FVar 1)) (SFld 2 1 (FVar 0) (FVar 2)))
def m_Parts___init__ : DN := mFn 3 3 b_Parts___init__
theorem ok_Parts___init__ {A : Ad} (T : Tx P w K mg A) : FnR P w K mg base (L2.CX P w) 1 A.a_Parts___init__ (spF ⟨K, A.cl⟩ m_Parts___init__) := by
  obtain ⟨fd, F⟩ := T.d_Parts___init__.ex
  have sc := sc_Parts___init__
  refine fnr_of (fn_ok F sc (cl := A.cl) (B := b_Parts___init__) fun cdv A2 outer s H E hr tk => ?_) (F.binds (ps := ["self", "key", "deeds"]) fun _ _ _ _ _ _ us hl => match us, hl with | [_, _, _], _ => by kernel_rfl)
  have hu := hr.units
  unfold b_Parts___init__
  exact (ss_cons (s_fld (i := 0) T.f_Parts (f_var 0) (f_var 1) (by rw [T.e_Parts]; rfl)) (ss_one (s_fld (i := 1) T.f_Parts (f_var 0) (f_var 2) (by rw [T.e_Parts]; rfl))))
theorem sc_Alike___init__ : FnScope ["self", "pairs"] ["self", "pairs"] (defScope s_Alike___init__) := ⟨rfl, rfl, rfl, by decide +kernel, rfl, by decide +kernel, by decide +kernel⟩
def b_Alike___init__ : Sl → Sto → RS := (SFld 1 0 (FVar 0) (FB fnList2 (ACons (FVar 1) ANil)))
def m_Alike___init__ : DN := mFn 2 2 b_Alike___init__
theorem ok_Alike___init__ {A : Ad} (T : Tx P w K mg A) : FnR P w K mg base (L2.CX P w) 1 A.a_Alike___init__ (spF ⟨K, A.cl⟩ m_Alike___init__) := by
  obtain ⟨fd, F⟩ := T.d_Alike___init__.ex
  have sc := sc_Alike___init__
  refine fnr_of (fn_ok F sc (cl := A.cl) (B := b_Alike___init__) fun cdv A2 outer s H E hr tk => ?_) (F.binds (ps := ["self", "pairs"]) fun _ _ _ _ _ _ us hl => match us, hl with | [_, _], _ => by kernel_rfl)
  have hu := hr.units
  unfold b_Alike___init__
  exact (ss_one (s_fld (i := 0) T.f_Alike (f_var 0) (f_callTy (call_list2 rfl) n_list2 T.n_list (a_cons (f_var 1) a_nil)) (by rw [T.e_Alike]; rfl)))
theorem sc_compared : FnScope ["one", "other", "starts", "deeds", "ways", "pairs", "at", "key", "before", "deed", "after", "pair"] ["one", "other", "starts", "deeds"] (defScope s_compared) := ⟨rfl, rfl, rfl, by decide +kernel, rfl, by decide +kernel, by decide +kernel⟩
def b_compared : Sl → Sto → RS := (SSeq (SLockN 2 (SAsg (FDcN 300 (IKN (FVar 2)) (.one 11) TYes (FVar 11) (FTup (ACons (FNGet (FVar 2) (FVar 11)) (ACons (FTup ANil) ANil))) [11]) (gN 4))) (SSeq (SAsg (FB fnListN (ACons (FVar 4) ANil)) (gN 5)) (SSeq (SAsg (FC (.int 0)) (gN 6)) (SSeq (SWhile 300 (TB (F2 (cmpI (fun i j => decide (i < j))) (FVar 6) (FB fnLen (ACons (FVar 5) ANil)))) (SSeq (SAsg (FNGet (FVar 4) (F2 opIx (FVar 5) (FVar 6))) (gT 2 [(gN 7), (gN 8)])) (SSeq (SFor 300 (ITu (FVar 3)) (gN 9) (SSeq (SAsg (FB m_pair_after (ACons (FVar 0) (ACons (FVar 1) (ACons (F2 opIx (FVar 5) (FVar 6)) (ACons (FVar 9) ANil))))) (gN 10)) (SSeq (SIf (TB (F2 (opIsN false) (FVar 10) (FC .non))) (SRet (FB (mNew 2 m_Parts___init__) (ACons (FVar 7) (ACons (F2 opAdd (FVar 8) (FTup (ACons (FVar 9) ANil))) ANil)))) SNx) (SIf (TB (FNIn true (FVar 10) (FVar 4))) (SSeq (SNPut (FVar 4) (FVar 10) (FTup (ACons (FVar 7) (ACons (F2 opAdd (FVar 8) (FTup (ACons (FVar 9) ANil))) ANil)))) (SExp (FApp (FVar 5) (ACons (FVar 10) ANil)))) SNx)))) (SAug 6 (fun i j => i + j) (FC (.int 1)))))) (SRet (FB (mNew 1 m_Alike___init__) (ACons (FVar 5) ANil)))))))
def m_compared : DN := mFn 4 12 b_compared
theorem ok_compared {A : Ad} (T : Tx P w K mg A) : FnR P w K mg base (L2.CX P w) 13 A.a_compared (spF ⟨K, A.cl⟩ m_compared) := by
  obtain ⟨fd, F, hm⟩ := T.d_compared.ex
  have sc := sc_compared
  refine fnr_of (fn_ok F sc (cl := A.cl) (B := b_compared) fun cdv A2 outer s H E hr tk => ?_) (F.binds (ps := ["one", "other", "starts", "deeds"]) fun _ _ _ _ _ _ us hl => match us, hl with | [_, _, _, _], _ => by kernel_rfl)
  have hu := hr.units
  unfold b_compared
  exact (ss_cons (s_lockN (i := 2) (s_setDcN (fuel := 300) (t := (.one 11)) (i := 4) (own := [("pair", 11)]) T.pw (hu65 hr) rfl sc.nd (i_keysN T.pw (f_var 2)) (blkOk_by (N := ["one", "other", "starts", "deeds", "ways", "pairs", "at", "key", "before", "deed", "after", "pair"]) (sc := defScope s_compared) (by decide +kernel)) (fun _ _ _ _ _ => (pg_name sc.nd rfl (by first | exact Or.inl rfl | exact Or.inr rfl) (by first | exact Or.inl rfl | exact Or.inr rfl))) (tg_one (by decide)) (fun _ _ _ _ _ => ts_nil) (fun _ _ _ _ _ => (f_var 11)) (fun _ _ _ _ _ => (f_tup (a_cons (f_nget T.pw (hu65 hr) (f_var 2) (f_var 11)) (a_cons (f_tup a_nil) a_nil)))))) (ss_cons (s_set (i := 5) sc.nd (f_callTy (call_listN T.pw rfl []) (n_listN []) T.n_list (a_cons (f_var 4) a_nil))) (ss_cons (s_set (i := 6) sc.nd f_int) (ss_cons (s_while (fuel := 300) (passes_of rfl) (t_cmp op_lt (o_cmpI (fun i j => decide (i < j))) (f_var 6) (f_callB call_len2 n_len T.n_len (a_cons (f_var 5) a_nil)) (nomark _)) (ss_cons (s_asg (f_nget T.pw (hu65 hr) (f_var 4) (f_ix (f_var 5) (f_var 6))) (g_tup rfl (gs_cons (g_name (i := 7) sc.nd) (gs_cons (g_name (i := 8) sc.nd) gs_nil))) nx_tup) (ss_cons (s_for (fuel := 300) (passes_of rfl) rfl (i_tup (f_var 3)) (g_name (i := 9) sc.nd) nx_name (ss_cons (s_set (i := 10) sc.nd (f_call (ok_pair_after T) (hr.mono (by decide)) tk T.d_pair_after.mg T.d_pair_after.kp (a_cons (f_var 0) (a_cons (f_var 1) (a_cons (f_ix (f_var 5) (f_var 6)) (a_cons (f_var 9) a_nil)))))) (ss_cons (s_if (t_cmp op_isN o_isN (f_var 10) f_non (nomark _)) (ss_one (s_ret (f_new T.mk_Parts (ok_Parts___init__ T) (hr.mono (by decide)) tk T.g_Parts (a_cons (f_var 7) (a_cons (f_op op_add3 o_add (f_var 8) (f_tup (a_cons (f_var 9) a_nil))) a_nil))))) ss_nil) (ss_one (s_if (t_nnotin T.pw (hu65 hr) (f_var 10) (f_var 4)) (ss_cons (s_nput T.pw (hu65 hr) (f_var 4) (f_var 10) (f_tup (a_cons (f_var 7) (a_cons (f_op op_add3 o_add (f_var 8) (f_tup (a_cons (f_var 9) a_nil))) a_nil)))) (ss_one (s_expr (f_app (f_var 5) (a_cons (f_var 10) a_nil))))) ss_nil))))) (ss_one (s_aug (i := 6) (g := fun i j => i + j) ip_add sc.nd f_int))))) (ss_one (s_ret (f_new T.mk_Alike (ok_Alike___init__ T) (hr.mono (by decide)) tk T.g_Alike (a_cons (f_var 5) a_nil))))))))
theorem sc_unheld_key : FnScope ["held", "known", "key"] ["held"] (defScope s_unheld_key) := ⟨rfl, rfl, rfl, by decide +kernel, rfl, by decide +kernel, by decide +kernel⟩
def b_unheld_key : Sl → Sto → RS := (SSeq (SAsg (FDc 300 (ILs (FVar 0)) (.one 2) TYes (FVar 2) (FC (.bl true)) [2]) (gN 1)) (SSeq (SAsg (FC (.int 0)) (gN 2)) (SSeq (SWhile 300 (TB (FDIn false (FVar 2) (FVar 1))) (SAug 2 (fun i j => i + j) (FC (.int 1)))) (SRet (FVar 2)))))
def m_unheld_key : DN := mFn 1 3 b_unheld_key
theorem ok_unheld_key {A : Ad} (T : Tx P w K mg A) : FnR P w K mg base (L2.CX P w) 1 A.a_unheld_key (spF ⟨K, A.cl⟩ m_unheld_key) := by
  obtain ⟨fd, F, hm⟩ := T.d_unheld_key.ex
  have sc := sc_unheld_key
  refine fnr_of (fn_ok F sc (cl := A.cl) (B := b_unheld_key) fun cdv A2 outer s H E hr tk => ?_) (F.binds (ps := ["held"]) fun _ _ _ _ _ _ us hl => match us, hl with | [_], _ => by kernel_rfl)
  have hu := hr.units
  unfold b_unheld_key
  exact (ss_cons (s_setDc (fuel := 300) (t := (.one 2)) (i := 1) (own := [("key", 2)])  rfl sc.nd (j_list (f_var 0)) (blkOk_by (N := ["held", "known", "key"]) (sc := defScope s_unheld_key) (by decide +kernel)) (fun _ _ _ _ _ => (pg_name sc.nd rfl (by first | exact Or.inl rfl | exact Or.inr rfl) (by first | exact Or.inl rfl | exact Or.inr rfl))) (tg_one (by decide)) (fun _ _ _ _ _ => ts_nil) (fun _ _ _ _ _ => (f_var 2)) (fun _ _ _ _ _ => f_bl)) (ss_cons (s_set (i := 2) sc.nd f_int) (ss_cons (s_while (fuel := 300) (passes_of rfl) (t_din (hu1 hr) (f_var 2) (f_var 1)) (ss_one (s_aug (i := 2) (g := fun i j => i + j) ip_add sc.nd f_int))) (ss_one (s_ret (f_var 2))))))
theorem sc_first_pairs : FnScope ["one", "other", "held", "found", "key"] ["one", "other"] (defScope s_first_pairs) := ⟨rfl, rfl, rfl, by decide +kernel, rfl, by decide +kernel, by decide +kernel⟩
def b_first_pairs : Sl → Sto → RS := (SSeq (SAsg (FSortSet (F2 opAdd (FMeth0 0 m_Stack_held (FVar 0)) (FMeth0 0 m_Stack_held (FVar 1)))) (gN 2)) (SSeq (SAsg (fun _ S => newDct S) (gN 3)) (SSeq (SFor 300 (ILs (F2 opAdd (FVar 2) (FLst (ACons (FB m_unheld_key (ACons (FVar 2) ANil)) ANil)))) (gN 4) (SExp (FNSd (FVar 3) (FTup (ACons (FMeth 0 m_Stack_column (FVar 0) (ACons (FVar 4) ANil)) (ACons (FMeth 0 m_Stack_column (FVar 1) (ACons (FVar 4) ANil)) ANil))) (FVar 4)))) (SRet (FVar 3)))))
def m_first_pairs : DN := mFn 2 5 b_first_pairs
theorem ok_first_pairs {A : Ad} (T : Tx P w K mg A) : FnR P w K mg base (L2.CX P w) 4 A.a_first_pairs (spF ⟨K, A.cl⟩ m_first_pairs) := by
  obtain ⟨fd, F, hm⟩ := T.d_first_pairs.ex
  have sc := sc_first_pairs
  refine fnr_of (fn_ok F sc (cl := A.cl) (B := b_first_pairs) fun cdv A2 outer s H E hr tk => ?_) (F.binds (ps := ["one", "other"]) fun _ _ _ _ _ _ us hl => match us, hl with | [_, _], _ => by kernel_rfl)
  have hu := hr.units
  unfold b_first_pairs
  exact (ss_cons (s_set (i := 2) sc.nd (f_sortSet rfl T.n_set T.n_sorted (f_op op_add3 o_add (f_meth0 T.f_Stack (ok_Stack_held T) (hr.mono (by decide)) tk T.me_Stack_held (by rw [T.e_Stack]; decide) (f_var 0)) (f_meth0 T.f_Stack (ok_Stack_held T) (hr.mono (by decide)) tk T.me_Stack_held (by rw [T.e_Stack]; decide) (f_var 1))))) (ss_cons (s_set (i := 3) sc.nd f_dnew) (ss_cons (s_for (fuel := 300) (passes_of rfl) rfl (j_list (f_op op_add3 o_add (f_var 2) (f_lst (a_cons (f_call (ok_unheld_key T) (hr.mono (by decide)) tk T.d_unheld_key.mg T.d_unheld_key.kp (a_cons (f_var 2) a_nil)) a_nil)))) (g_name (i := 4) sc.nd) nx_name (ss_one (s_expr (f_nsd T.pw (hu65 hr) (f_var 3) (f_tup (a_cons (f_meth T.f_Stack (ok_Stack_column T) (hr.mono (by decide)) tk T.me_Stack_column (by rw [T.e_Stack]; decide) (f_var 0) (a_cons (f_var 4) a_nil)) (a_cons (f_meth T.f_Stack (ok_Stack_column T) (hr.mono (by decide)) tk T.me_Stack_column (by rw [T.e_Stack]; decide) (f_var 1) (a_cons (f_var 4) a_nil)) a_nil))) (f_var 4))))) (ss_one (s_ret (f_var 3))))))
theorem sc_compared_deeds : FnScope ["shared"] ["shared"] (defScope s_compared_deeds) := ⟨rfl, rfl, rfl, by decide +kernel, rfl, by decide +kernel, by decide +kernel⟩
def b_compared_deeds : Sl → Sto → RS := (SRet (FIf (TB (FVar 0)) (F2 opAdd (FC (.tup [(.tup [(.str "ask")]), (.tup [(.str "has")]), (.tup [(.str "write"), (.int 0)]), (.tup [(.str "write"), (.int 1)]), (.tup [(.str "forget")])])) (FC (.tup [(.tup [(.str "beneath"), (.int 0)]), (.tup [(.str "beneath"), (.int 1)]), (.tup [(.str "beneath"), .non])]))) (FC (.tup [(.tup [(.str "ask")]), (.tup [(.str "has")]), (.tup [(.str "write"), (.int 0)]), (.tup [(.str "write"), (.int 1)]), (.tup [(.str "forget")])]))))
def m_compared_deeds : DN := mFn 1 1 b_compared_deeds
theorem ok_compared_deeds {A : Ad} (T : Tx P w K mg A) : FnR P w K mg base (L2.CX P w) 1 A.a_compared_deeds (spF ⟨K, A.cl⟩ m_compared_deeds) := by
  obtain ⟨fd, F, hm⟩ := T.d_compared_deeds.ex
  have sc := sc_compared_deeds
  refine fnr_of (fn_ok F sc (cl := A.cl) (B := b_compared_deeds) fun cdv A2 outer s H E hr tk => ?_) (F.binds (ps := ["shared"]) fun _ _ _ _ _ _ us hl => match us, hl with | [_], _ => by kernel_rfl)
  have hu := hr.units
  unfold b_compared_deeds
  exact (ss_one (s_ret (f_if (t_val (f_var 0)) (f_op op_add3 o_add (f_globD T.c_OWN_DEEDS) (f_globD T.c_SHARED_DEEDS)) (f_globD T.c_OWN_DEEDS))))
theorem sc_alike : FnScope ["one", "other", "shared"] ["one", "other", "shared"] (defScope s_alike) := ⟨rfl, rfl, rfl, by decide +kernel, rfl, by decide +kernel, by decide +kernel⟩
def b_alike : Sl → Sto → RS := (SSeq (SExp (FB m_check_both (ACons (FVar 0) (ACons (FVar 1) ANil)))) (SRet (FB m_compared (ACons (FVar 0) (ACons (FVar 1) (ACons (FB m_first_pairs (ACons (FVar 0) (ACons (FVar 1) ANil))) (ACons (FB m_compared_deeds (ACons (FVar 2) ANil)) ANil)))))))
def m_alike : DN := mFn 3 3 b_alike
theorem okF_alike {A : Ad} (T : Tx P w K mg A) : ∃ fd, FunD K "alike" "alike" (defArgs s_alike) (defBody s_alike) (defScope s_alike) [] [("shared", .bl true)] A.a_alike fd ∧ FnOk P w K mg base (L2.CX P w) 14 A.a_alike fd ["one", "other", "shared"] (spF ⟨K, A.cl⟩ m_alike) := by
  obtain ⟨fd, F⟩ := T.d_alike.ex
  have sc := sc_alike
  refine ⟨fd, F, fn_okK (x := "alike") (qual := "alike") (st := s_alike) (N := ["one", "other", "shared"]) (ps := ["one", "other", "shared"]) (k := 13) F sc (cl := A.cl) (B := b_alike) fun cdv A2 outer s H E hr tk => ?_⟩
  have hu := hr.units
  unfold b_alike
  exact (ss_cons (s_expr (f_call (ok_check_both T) (hr.mono (by decide)) tk T.d_check_both.mg T.d_check_both.kp (a_cons (f_var 0) (a_cons (f_var 1) a_nil)))) (ss_one (s_ret (f_call (ok_compared T) (hr.mono (by decide)) tk T.d_compared.mg T.d_compared.kp (a_cons (f_var 0) (a_cons (f_var 1) (a_cons (f_call (ok_first_pairs T) (hr.mono (by decide)) tk T.d_first_pairs.mg T.d_first_pairs.kp (a_cons (f_var 0) (a_cons (f_var 1) a_nil))) (a_cons (f_call (ok_compared_deeds T) (hr.mono (by decide)) tk T.d_compared_deeds.mg T.d_compared_deeds.kp (a_cons (f_var 2) a_nil)) a_nil))))))))
theorem okR_alike {A : Ad} (T : Tx P w K mg A) : FnR P w K mg base (L2.CX P w) 14 A.a_alike (spF ⟨K, A.cl⟩ (mKwD 3 (.bl true) m_alike)) := by
  obtain ⟨fd, F, G⟩ := okF_alike (base := base) T
  exact fnr_kwd (ps := ["one", "other", "shared"]) (v := .bl true) G (F.binds0 2 (by simp) rfl fun _ _ _ _ _ _ us ks hl h1 => match us, hl, ks, h1 with | [_, _], _, [_], _ => ⟨_, _, _, _, _, _, rfl, rfl, rfl⟩) (fun _ _ => rfl)
theorem okK_alike {A : Ad} (T : Tx P w K mg A) : FnRK P w K mg base (L2.CX P w) 14 A.a_alike 2 ["shared"] (spF ⟨K, A.cl⟩ m_alike) := by
  obtain ⟨fd, F, G⟩ := okF_alike (base := base) T
  exact fnrk_of G (kbn_of F 2 ["shared"] (by simp) fun _ _ _ _ _ _ us ws hl h1 => match us, hl, ws, h1 with | [_, _], _, [_], _ => by kernel_rfl)
theorem sc_soonest : FnScope ["one", "other", "shared"] ["one", "other", "shared"] (defScope s_soonest) := ⟨rfl, rfl, rfl, by decide +kernel, rfl, by decide +kernel, by decide +kernel⟩
def b_soonest : Sl → Sto → RS := (SRet (FB m_count_of_deeds (ACons (FKw 2 1 m_alike (ACons (FVar 0) (ACons (FVar 1) ANil)) (ACons (FVar 2) ANil)) ANil)))
def m_soonest : DN := mFn 3 3 b_soonest
theorem okF_soonest {A : Ad} (T : Tx P w K mg A) : ∃ fd, FunD K "soonest" "soonest" (defArgs s_soonest) (defBody s_soonest) (defScope s_soonest) [] [("shared", .bl true)] A.a_soonest fd ∧ FnOk P w K mg base (L2.CX P w) 15 A.a_soonest fd ["one", "other", "shared"] (spF ⟨K, A.cl⟩ m_soonest) := by
  obtain ⟨fd, F⟩ := T.d_soonest.ex
  have sc := sc_soonest
  refine ⟨fd, F, fn_okK (x := "soonest") (qual := "soonest") (st := s_soonest) (N := ["one", "other", "shared"]) (ps := ["one", "other", "shared"]) (k := 14) F sc (cl := A.cl) (B := b_soonest) fun cdv A2 outer s H E hr tk => ?_⟩
  have hu := hr.units
  unfold b_soonest
  exact (ss_one (s_ret (f_call (ok_count_of_deeds T) (hr.mono (by decide)) tk T.d_count_of_deeds.mg T.d_count_of_deeds.kp (a_cons (f_callK (okK_alike T) (hr.mono (by decide)) tk T.d_alike.mg T.d_alike.kp (a_cons (f_var 0) (a_cons (f_var 1) a_nil)) (k_one (f_var 2))) a_nil))))
theorem okR_soonest {A : Ad} (T : Tx P w K mg A) : FnR P w K mg base (L2.CX P w) 15 A.a_soonest (spF ⟨K, A.cl⟩ (mKwD 3 (.bl true) m_soonest)) := by
  obtain ⟨fd, F, G⟩ := okF_soonest (base := base) T
  exact fnr_kwd (ps := ["one", "other", "shared"]) (v := .bl true) G (F.binds0 2 (by simp) rfl fun _ _ _ _ _ _ us ks hl h1 => match us, hl, ks, h1 with | [_, _], _, [_], _ => ⟨_, _, _, _, _, _, rfl, rfl, rfl⟩) (fun _ _ => rfl)
theorem okK_soonest {A : Ad} (T : Tx P w K mg A) : FnRK P w K mg base (L2.CX P w) 15 A.a_soonest 2 ["shared"] (spF ⟨K, A.cl⟩ m_soonest) := by
  obtain ⟨fd, F, G⟩ := okF_soonest (base := base) T
  exact fnrk_of G (kbn_of F 2 ["shared"] (by simp) fun _ _ _ _ _ _ us ws hl h1 => match us, hl, ws, h1 with | [_, _], _, [_], _ => by kernel_rfl)
theorem sc_Stack_plain : FnScope ["cls", "pairs"] ["cls", "pairs"] (defScope s_Stack_plain) := ⟨rfl, rfl, rfl, by decide +kernel, rfl, by decide +kernel, by decide +kernel⟩
def b_Stack_plain : Sl → Sto → RS := (SRet (FNewV 0 0 m_Stack___init__ (ACons (FTup (ACons (FC (.tup [(.str "here"), (.str "here"), (.str "look"), .non])) ANil)) (ACons (FTup (ACons (FVar 1) ANil)) ANil))))
def m_Stack_plain : DN := mFn 2 2 b_Stack_plain
theorem ok_Stack_plain {A : Ad} (T : Tx P w K mg A) : FnR P w K mg base (L2.CX P w) 7 A.a_Stack_plain (spF ⟨K, A.cl⟩ m_Stack_plain) := by
  obtain ⟨fd, F⟩ := T.d_Stack_plain.ex
  have sc := sc_Stack_plain
  refine fnr_of (fn_ok F sc (cl := A.cl) (B := b_Stack_plain) fun cdv A2 outer s H E hr tk => ?_) (F.binds (ps := ["cls", "pairs"]) fun _ _ _ _ _ _ us hl => match us, hl with | [_, _], _ => by kernel_rfl)
  have hu := hr.units
  unfold b_Stack_plain
  exact (ss_one (s_ret (f_newV (c := 0) (i := 0) T.mk_Stack (ok_Stack___init__ T) (hr.mono (by decide)) tk (a_cons (f_tup (a_cons (f_globD T.c_PLAIN_LAYER) a_nil)) (a_cons (f_tup (a_cons (f_var 1) a_nil)) a_nil)))))
theorem sc_flat : FnScope ["stack", "key"] ["stack"] (defScope s_flat) := ⟨rfl, rfl, rfl, by decide +kernel, rfl, by decide +kernel, by decide +kernel⟩
def b_flat : Sl → Sto → RS := (SSeq (SExp (FB m_check_stack (ACons (FVar 0) ANil))) (SRet (FB (fun ds S => m_Stack_plain (.cls 0 :: ds) S) (ACons (FDc 300 (ILs (FMeth0 0 m_Stack_visible (FVar 0))) (.one 1) TYes (FVar 1) (FOwnIx 0 m_Stack___getitem__ (FVar 0) (FVar 1)) [1]) ANil))))
def m_flat : DN := mFn 1 2 b_flat
theorem ok_flat {A : Ad} (T : Tx P w K mg A) : FnR P w K mg base (L2.CX P w) 9 A.a_flat (spF ⟨K, A.cl⟩ m_flat) := by
  obtain ⟨fd, F, hm⟩ := T.d_flat.ex
  have sc := sc_flat
  refine fnr_of (fn_ok F sc (cl := A.cl) (B := b_flat) fun cdv A2 outer s H E hr tk => ?_) (F.binds (ps := ["stack"]) fun _ _ _ _ _ _ us hl => match us, hl with | [_], _ => by kernel_rfl)
  have hu := hr.units
  unfold b_flat
  exact (ss_cons (s_expr (f_call (ok_check_stack T) (hr.mono (by decide)) tk T.d_check_stack.mg T.d_check_stack.kp (a_cons (f_var 0) a_nil))) (ss_one (s_ret (f_cmeth (c := 0) T.cr_Stack T.cm_Stack_plain (ok_Stack_plain T) (hr.mono (by decide)) tk T.g_Stack (a_cons (f_dc (fuel := 300) (t := (.one 1)) (own := [("key", 1)]) rfl sc.nd (j_list (f_meth0 T.f_Stack (ok_Stack_visible T) (hr.mono (by decide)) tk T.me_Stack_visible (by rw [T.e_Stack]; decide) (f_var 0))) (blkOk_by (N := ["stack", "key"]) (sc := defScope s_flat) (by decide +kernel)) (fun _ _ _ _ _ => (pg_name sc.nd rfl (by first | exact Or.inl rfl | exact Or.inr rfl) (by first | exact Or.inl rfl | exact Or.inr rfl))) (tg_one (by decide)) (fun _ _ _ _ _ => ts_nil) (fun _ _ _ _ _ => (f_var 1)) (fun _ _ _ _ _ => (f_own_ix T.ow_Stack___getitem__ T.fi_Stack___getitem__ (ok_Stack___getitem__ T) (hr.mono (by decide)) tk0 (f_var 0) (f_var 1)))) a_nil)))))
theorem sc_is_flat : FnScope ["stack", "shared"] ["stack", "shared"] (defScope s_is_flat) := ⟨rfl, rfl, rfl, by decide +kernel, rfl, by decide +kernel, by decide +kernel⟩
def b_is_flat : Sl → Sto → RS := (SRet (F2 (opIsN false) (FGc (FKw 2 1 m_soonest (ACons (FVar 0) (ACons (FB m_flat (ACons (FVar 0) ANil)) ANil)) (ACons (FVar 1) ANil))) (FC .non)))
def m_is_flat : DN := mFn 2 2 b_is_flat
theorem okF_is_flat {A : Ad} (T : Tx P w K mg A) : ∃ fd, FunD K "is_flat" "is_flat" (defArgs s_is_flat) (defBody s_is_flat) (defScope s_is_flat) [] [("shared", .bl true)] A.a_is_flat fd ∧ FnOk P w K mg base (L2.CX P w) 16 A.a_is_flat fd ["stack", "shared"] (spF ⟨K, A.cl⟩ m_is_flat) := by
  obtain ⟨fd, F⟩ := T.d_is_flat.ex
  have sc := sc_is_flat
  refine ⟨fd, F, fn_okK (x := "is_flat") (qual := "is_flat") (st := s_is_flat) (N := ["stack", "shared"]) (ps := ["stack", "shared"]) (k := 15) F sc (cl := A.cl) (B := b_is_flat) fun cdv A2 outer s H E hr tk => ?_⟩
  have hu := hr.units
  unfold b_is_flat
  exact (ss_one (s_ret (f_cmp op_isN o_isN (f_gc (f_callK (okK_soonest T) (hr.mono (by decide)) tk T.d_soonest.mg T.d_soonest.kp (a_cons (f_var 0) (a_cons (f_call (ok_flat T) (hr.mono (by decide)) tk T.d_flat.mg T.d_flat.kp (a_cons (f_var 0) a_nil)) a_nil)) (k_one (f_var 1)))) f_non (nomark _))))
theorem okR_is_flat {A : Ad} (T : Tx P w K mg A) : FnR P w K mg base (L2.CX P w) 16 A.a_is_flat (spF ⟨K, A.cl⟩ (mKwD 2 (.bl true) m_is_flat)) := by
  obtain ⟨fd, F, G⟩ := okF_is_flat (base := base) T
  exact fnr_kwd (ps := ["stack", "shared"]) (v := .bl true) G (F.binds0 1 (by simp) rfl fun _ _ _ _ _ _ us ks hl h1 => match us, hl, ks, h1 with | [_], _, [_], _ => ⟨_, _, _, _, _, _, rfl, rfl, rfl⟩) (fun _ _ => rfl)
theorem okK_is_flat {A : Ad} (T : Tx P w K mg A) : FnRK P w K mg base (L2.CX P w) 16 A.a_is_flat 1 ["shared"] (spF ⟨K, A.cl⟩ m_is_flat) := by
  obtain ⟨fd, F, G⟩ := okF_is_flat (base := base) T
  exact fnrk_of G (kbn_of F 1 ["shared"] (by simp) fun _ _ _ _ _ _ us ws hl h1 => match us, hl, ws, h1 with | [_], _, [_], _ => by kernel_rfl)
theorem sc_are_deeds : FnScope ["things", "shared", "thing"] ["things", "shared"] (defScope s_are_deeds) := ⟨rfl, rfl, rfl, by decide +kernel, rfl, by decide +kernel, by decide +kernel⟩
def b_are_deeds : Sl → Sto → RS := (SSeq (SIf (TNot (TB (FIs .tup (FVar 0)))) (SRet (FC (.bl false))) SNx) (SRet (FB fnAll (ACons (FLc 300 (ITu (FVar 0)) (.one 2) TYes (FAnd (FB m_is_deed (ACons (FVar 2) ANil)) (FOr (FVar 1) (F2 (opEqB true) (F2 opIx (FVar 2) (FC (.int 0))) (FC (.str "beneath"))))) [2]) ANil))))
def m_are_deeds : DN := mFn 2 3 b_are_deeds
theorem ok_are_deeds {A : Ad} (T : Tx P w K mg A) : FnR P w K mg base (L2.CX P w) 3 A.a_are_deeds (spF ⟨K, A.cl⟩ m_are_deeds) := by
  obtain ⟨fd, F, hm⟩ := T.d_are_deeds.ex
  have sc := sc_are_deeds
  refine fnr_of (fn_ok F sc (cl := A.cl) (B := b_are_deeds) fun cdv A2 outer s H E hr tk => ?_) (F.binds (ps := ["things", "shared"]) fun _ _ _ _ _ _ us hl => match us, hl with | [_, _], _ => by kernel_rfl)
  have hu := hr.units
  unfold b_are_deeds
  exact (ss_cons (s_if (t_not (t_val (f_is T.kC T.k_tuple T.n_isinstance T.n_tuple (f_var 0)))) (ss_one (s_ret f_bl)) ss_nil) (ss_one (s_ret (f_callB (cr_all rfl) n_all T.n_all (a_cons (f_lc (fuel := 300) (t := (.one 2)) (own := [("thing", 2)]) rfl sc.nd (i_tup (f_var 0)) (blkOk_by (N := ["things", "shared", "thing"]) (sc := defScope s_are_deeds) (by decide +kernel)) (fun _ _ _ _ _ => (pg_name sc.nd rfl (by first | exact Or.inl rfl | exact Or.inr rfl) (by first | exact Or.inl rfl | exact Or.inr rfl))) (tg_one (by decide)) (fun _ _ _ _ _ => ts_nil) (fun _ _ _ _ _ => (f_and (f_call (ok_is_deed T) (hr.mono (by decide)) tk0 T.d_is_deed.mg T.d_is_deed.kp (a_cons (f_var 2) a_nil)) (f_one (f_or (f_var 1) (f_one (f_cmp (op_neD hu) o_ne (f_ix (f_var 2) f_int) f_str (nomark _)))))))) a_nil)))))
theorem sc_can_part : FnScope ["things", "shared"] ["things", "shared"] (defScope s_can_part) := ⟨rfl, rfl, rfl, by decide +kernel, rfl, by decide +kernel, by decide +kernel⟩
def b_can_part : Sl → Sto → RS := (SRet (FAnd (FB m_are_deeds (ACons (FVar 0) (ACons (FVar 1) ANil))) (F2 (cmpI (fun i j => decide (j < i))) (FB fnLen (ACons (FVar 0) ANil)) (FC (.int 0)))))
def m_can_part : DN := mFn 2 2 b_can_part
theorem ok_can_part {A : Ad} (T : Tx P w K mg A) : FnR P w K mg base (L2.CX P w) 4 A.a_can_part (spF ⟨K, A.cl⟩ m_can_part) := by
  obtain ⟨fd, F, hm⟩ := T.d_can_part.ex
  have sc := sc_can_part
  refine fnr_of (fn_ok F sc (cl := A.cl) (B := b_can_part) fun cdv A2 outer s H E hr tk => ?_) (F.binds (ps := ["things", "shared"]) fun _ _ _ _ _ _ us hl => match us, hl with | [_, _], _ => by kernel_rfl)
  have hu := hr.units
  unfold b_can_part
  exact (ss_one (s_ret (f_and (f_call (ok_are_deeds T) (hr.mono (by decide)) tk T.d_are_deeds.mg T.d_are_deeds.kp (a_cons (f_var 0) (a_cons (f_var 1) a_nil))) (f_one (f_cmp op_gt (o_cmpI (fun i j => decide (j < i))) (f_callB call_len2 n_len T.n_len (a_cons (f_var 0) a_nil)) f_int (nomark _))))))
theorem sc_done_in_turn : FnScope ["layers", "column", "deeds", "answer", "deed"] ["layers", "column", "deeds"] (defScope s_done_in_turn) := ⟨rfl, rfl, rfl, by decide +kernel, rfl, by decide +kernel, by decide +kernel⟩
def b_done_in_turn : Sl → Sto → RS := (SSeq (SAsg (FC .non) (gN 3)) (SSeq (SFor 300 (ITu (FVar 2)) (gN 4) (SAsg (FB m_done (ACons (FVar 0) (ACons (FVar 1) (ACons (FVar 4) ANil)))) (gT 2 [(gN 3), (gN 1)]))) (SRet (FTup (ACons (FVar 3) (ACons (FVar 1) ANil))))))
def m_done_in_turn : DN := mFn 3 5 b_done_in_turn
theorem ok_done_in_turn {A : Ad} (T : Tx P w K mg A) : FnR P w K mg base (L2.CX P w) 12 A.a_done_in_turn (spF ⟨K, A.cl⟩ m_done_in_turn) := by
  obtain ⟨fd, F, hm⟩ := T.d_done_in_turn.ex
  have sc := sc_done_in_turn
  refine fnr_of (fn_ok F sc (cl := A.cl) (B := b_done_in_turn) fun cdv A2 outer s H E hr tk => ?_) (F.binds (ps := ["layers", "column", "deeds"]) fun _ _ _ _ _ _ us hl => match us, hl with | [_, _, _], _ => by kernel_rfl)
  have hu := hr.units
  unfold b_done_in_turn
  exact (ss_cons (s_set (i := 3) sc.nd f_non) (ss_cons (s_for (fuel := 300) (passes_of rfl) rfl (i_tup (f_var 2)) (g_name (i := 4) sc.nd) nx_name (ss_one (s_asg (f_call (ok_done T) (hr.mono (by decide)) tk T.d_done.mg T.d_done.kp (a_cons (f_var 0) (a_cons (f_var 1) (a_cons (f_var 4) a_nil)))) (g_tup rfl (gs_cons (g_name (i := 3) sc.nd) (gs_cons (g_name (i := 1) sc.nd) gs_nil))) nx_tup))) (ss_one (s_ret (f_tup (a_cons (f_var 3) (a_cons (f_var 1) a_nil)))))))
end
end K6
set_option Elab.async false
set_option autoImplicit false
set_option linter.all false
set_option maxRecDepth 100000
set_option maxHeartbeats 4000000
namespace K6
open PySem L2 Mi
section
variable {P : Program} {w : World} {K : PySem.W.Frag} {mg : Str → Option Value} {base : Heap}
theorem sc_last_answer : FnScope ["stack", "key", "deeds"] ["stack", "key", "deeds"] (defScope s_last_answer) := ⟨rfl, rfl, rfl, by decide +kernel, rfl, by decide +kernel, by decide +kernel⟩
def b_last_answer : Sl → Sto → RS := (SRet (F2 opIx (FB m_done_in_turn (ACons (FProp 0 m_Stack_layers (FVar 0)) (ACons (FMeth 0 m_Stack_column (FVar 0) (ACons (FVar 1) ANil)) (ACons (FVar 2) ANil)))) (FC (.int 0))))
def m_last_answer : DN := mFn 3 3 b_last_answer
theorem ok_last_answer {A : Ad} (T : Tx P w K mg A) : FnR P w K mg base (L2.CX P w) 13 A.a_last_answer (spF ⟨K, A.cl⟩ m_last_answer) := by
  obtain ⟨fd, F, hm⟩ := T.d_last_answer.ex
  have sc := sc_last_answer
  refine fnr_of (fn_ok F sc (cl := A.cl) (B := b_last_answer) fun cdv A2 outer s H E hr tk => ?_) (F.binds (ps := ["stack", "key", "deeds"]) fun _ _ _ _ _ _ us hl => match us, hl with | [_, _, _], _ => by kernel_rfl)
  have hu := hr.units
  unfold b_last_answer
  exact (ss_one (s_ret (f_ix (f_call (ok_done_in_turn T) (hr.mono (by decide)) tk T.d_done_in_turn.mg T.d_done_in_turn.kp (a_cons (Exists.elim (ok_Stack_layers T) fun _ h => f_propM T.f_Stack T.pr_Stack_layers h.1 (hr.mono (by decide)) h.2 (f_var 0)) (a_cons (f_meth T.f_Stack (ok_Stack_column T) (hr.mono (by decide)) tk T.me_Stack_column (by rw [T.e_Stack]; decide) (f_var 0) (a_cons (f_var 1) a_nil)) (a_cons (f_var 2) a_nil)))) f_int)))
theorem sc_Parts_shows : FnScope ["self", "one", "other", "shared"] ["self", "one", "other", "shared"] (defScope s_Parts_shows) := ⟨rfl, rfl, rfl, by decide +kernel, rfl, by decide +kernel, by decide +kernel⟩
def b_Parts_shows : Sl → Sto → RS := (SSeq (SExp (FB m_check_both (ACons (FVar 1) (ACons (FVar 2) ANil)))) (SSeq (SIf (TOr (TNot (TB (FB m_is_integer (ACons (FFld 2 0 (FVar 0)) ANil)))) (TNot (TB (FB m_can_part (ACons (FFld 2 1 (FVar 0)) (ACons (FVar 3) ANil)))))) (SRet (FC (.bl false))) SNx) (SRet (F2 (opEqB true) (FB m_last_answer (ACons (FVar 1) (ACons (FFld 2 0 (FVar 0)) (ACons (FFld 2 1 (FVar 0)) ANil)))) (FB m_last_answer (ACons (FVar 2) (ACons (FFld 2 0 (FVar 0)) (ACons (FFld 2 1 (FVar 0)) ANil))))))))
def m_Parts_shows : DN := mFn 4 4 b_Parts_shows
theorem okF_Parts_shows {A : Ad} (T : Tx P w K mg A) : ∃ fd, FunD K "shows" "Parts.shows" (defArgs s_Parts_shows) (defBody s_Parts_shows) (defScope s_Parts_shows) [] [("shared", .bl true)] A.a_Parts_shows fd ∧ FnOk P w K mg base (L2.CX P w) 14 A.a_Parts_shows fd ["self", "one", "other", "shared"] (spF ⟨K, A.cl⟩ m_Parts_shows) := by
  obtain ⟨fd, F⟩ := T.d_Parts_shows.ex
  have sc := sc_Parts_shows
  refine ⟨fd, F, fn_okK (x := "shows") (qual := "Parts.shows") (st := s_Parts_shows) (N := ["self", "one", "other", "shared"]) (ps := ["self", "one", "other", "shared"]) (k := 13) F sc (cl := A.cl) (B := b_Parts_shows) fun cdv A2 outer s H E hr tk => ?_⟩
  have hu := hr.units
  unfold b_Parts_shows
  exact (ss_cons (s_expr (f_call (ok_check_both T) (hr.mono (by decide)) tk T.d_check_both.mg T.d_check_both.kp (a_cons (f_var 1) (a_cons (f_var 2) a_nil)))) (ss_cons (s_if (PW.pt (w_or (t_not (t_val (f_call (ok_is_integer T) (hr.mono (by decide)) tk T.d_is_integer.mg T.d_is_integer.kp (a_cons (f_fld (i := 0) T.f_Parts (f_var 0) (by rw [T.e_Parts]; rfl)) a_nil)))) (w_or1 (t_not (t_val (f_call (ok_can_part T) (hr.mono (by decide)) tk T.d_can_part.mg T.d_can_part.kp (a_cons (f_fld (i := 1) T.f_Parts (f_var 0) (by rw [T.e_Parts]; rfl)) (a_cons (f_var 3) a_nil)))))))) (ss_one (s_ret f_bl)) ss_nil) (ss_one (s_ret (f_cmp (op_neD hu) o_ne (f_call (ok_last_answer T) (hr.mono (by decide)) tk T.d_last_answer.mg T.d_last_answer.kp (a_cons (f_var 1) (a_cons (f_fld (i := 0) T.f_Parts (f_var 0) (by rw [T.e_Parts]; rfl)) (a_cons (f_fld (i := 1) T.f_Parts (f_var 0) (by rw [T.e_Parts]; rfl)) a_nil)))) (f_call (ok_last_answer T) (hr.mono (by decide)) tk T.d_last_answer.mg T.d_last_answer.kp (a_cons (f_var 2) (a_cons (f_fld (i := 0) T.f_Parts (f_var 0) (by rw [T.e_Parts]; rfl)) (a_cons (f_fld (i := 1) T.f_Parts (f_var 0) (by rw [T.e_Parts]; rfl)) a_nil)))) (nomark _))))))
theorem okR_Parts_shows {A : Ad} (T : Tx P w K mg A) : FnR P w K mg base (L2.CX P w) 14 A.a_Parts_shows (spF ⟨K, A.cl⟩ (mKwD 4 (.bl true) m_Parts_shows)) := by
  obtain ⟨fd, F, G⟩ := okF_Parts_shows (base := base) T
  exact fnr_kwd (ps := ["self", "one", "other", "shared"]) (v := .bl true) G (F.binds0 3 (by simp) rfl fun _ _ _ _ _ _ us ks hl h1 => match us, hl, ks, h1 with | [_, _, _], _, [_], _ => ⟨_, _, _, _, _, _, rfl, rfl, rfl⟩) (fun _ _ => rfl)
theorem okK_Parts_shows {A : Ad} (T : Tx P w K mg A) : FnRK P w K mg base (L2.CX P w) 14 A.a_Parts_shows 3 ["shared"] (spF ⟨K, A.cl⟩ m_Parts_shows) := by
  obtain ⟨fd, F, G⟩ := okF_Parts_shows (base := base) T
  exact fnrk_of G (kbn_of F 3 ["shared"] (by simp) fun _ _ _ _ _ _ us ws hl h1 => match us, hl, ws, h1 with | [_, _, _], _, [_], _ => by kernel_rfl)
theorem sc_is_column : FnScope ["thing", "count", "held"] ["thing", "count"] (defScope s_is_column) := ⟨rfl, rfl, rfl, by decide +kernel, rfl, by decide +kernel, by decide +kernel⟩
def b_is_column : Sl → Sto → RS := (SSeq (SIf (TOr (TNot (TB (FIs .tup (FVar 0)))) (TB (F2 (opEqB true) (FB fnLen (ACons (FVar 0) ANil)) (FVar 1)))) (SRet (FC (.bl false))) SNx) (SRet (FB fnAll (ACons (FLc 300 (ITu (FVar 0)) (.one 2) TYes (FOr (F2 (opIsN false) (FVar 2) (FC .non)) (FB m_is_held (ACons (FVar 2) ANil))) [2]) ANil))))
def m_is_column : DN := mFn 2 3 b_is_column
theorem ok_is_column {A : Ad} (T : Tx P w K mg A) : FnR P w K mg base (L2.CX P w) 3 A.a_is_column (spF ⟨K, A.cl⟩ m_is_column) := by
  obtain ⟨fd, F, hm⟩ := T.d_is_column.ex
  have sc := sc_is_column
  refine fnr_of (fn_ok F sc (cl := A.cl) (B := b_is_column) fun cdv A2 outer s H E hr tk => ?_) (F.binds (ps := ["thing", "count"]) fun _ _ _ _ _ _ us hl => match us, hl with | [_, _], _ => by kernel_rfl)
  have hu := hr.units
  unfold b_is_column
  exact (ss_cons (s_if (PW.pt (w_or (t_not (t_val (f_is T.kC T.k_tuple T.n_isinstance T.n_tuple (f_var 0)))) (w_or1 (t_cmp (op_neD hu) o_ne (f_callB call_len2 n_len T.n_len (a_cons (f_var 0) a_nil)) (f_var 1) (nomark _))))) (ss_one (s_ret f_bl)) ss_nil) (ss_one (s_ret (f_callB (cr_all rfl) n_all T.n_all (a_cons (f_lc (fuel := 300) (t := (.one 2)) (own := [("held", 2)]) rfl sc.nd (i_tup (f_var 0)) (blkOk_by (N := ["thing", "count", "held"]) (sc := defScope s_is_column) (by decide +kernel)) (fun _ _ _ _ _ => (pg_name sc.nd rfl (by first | exact Or.inl rfl | exact Or.inr rfl) (by first | exact Or.inl rfl | exact Or.inr rfl))) (tg_one (by decide)) (fun _ _ _ _ _ => ts_nil) (fun _ _ _ _ _ => (f_or (f_cmp op_isN o_isN (f_var 2) f_non (nomark _)) (f_one (f_call (ok_is_held T) (hr.mono (by decide)) tk0 T.d_is_held.mg T.d_is_held.kp (a_cons (f_var 2) a_nil)))))) a_nil)))))
theorem sc_is_pair : FnScope ["pair", "one", "other"] ["pair", "one", "other"] (defScope s_is_pair) := ⟨rfl, rfl, rfl, by decide +kernel, rfl, by decide +kernel, by decide +kernel⟩
def b_is_pair : Sl → Sto → RS := (SSeq (SIf (TOr (TNot (TB (FIs .tup (FVar 0)))) (TB (F2 (opEqB true) (FB fnLen (ACons (FVar 0) ANil)) (FC (.int 2))))) (SRet (FC (.bl false))) SNx) (SRet (FAnd (FB m_is_column (ACons (F2 opIx (FVar 0) (FC (.int 0))) (ACons (FB fnLen (ACons (FProp 0 m_Stack_layers (FVar 1)) ANil)) ANil))) (FB m_is_column (ACons (F2 opIx (FVar 0) (FC (.int 1))) (ACons (FB fnLen (ACons (FProp 0 m_Stack_layers (FVar 2)) ANil)) ANil))))))
def m_is_pair : DN := mFn 3 3 b_is_pair
theorem ok_is_pair {A : Ad} (T : Tx P w K mg A) : FnR P w K mg base (L2.CX P w) 4 A.a_is_pair (spF ⟨K, A.cl⟩ m_is_pair) := by
  obtain ⟨fd, F, hm⟩ := T.d_is_pair.ex
  have sc := sc_is_pair
  refine fnr_of (fn_ok F sc (cl := A.cl) (B := b_is_pair) fun cdv A2 outer s H E hr tk => ?_) (F.binds (ps := ["pair", "one", "other"]) fun _ _ _ _ _ _ us hl => match us, hl with | [_, _, _], _ => by kernel_rfl)
  have hu := hr.units
  unfold b_is_pair
  exact (ss_cons (s_if (PW.pt (w_or (t_not (t_val (f_is T.kC T.k_tuple T.n_isinstance T.n_tuple (f_var 0)))) (w_or1 (t_cmp (op_neD hu) o_ne (f_callB call_len2 n_len T.n_len (a_cons (f_var 0) a_nil)) f_int (nomark _))))) (ss_one (s_ret f_bl)) ss_nil) (ss_one (s_ret (f_and (f_call (ok_is_column T) (hr.mono (by decide)) tk T.d_is_column.mg T.d_is_column.kp (a_cons (f_ix (f_var 0) f_int) (a_cons (f_callB call_len2 n_len T.n_len (a_cons (Exists.elim (ok_Stack_layers T) fun _ h => f_propM T.f_Stack T.pr_Stack_layers h.1 (hr.mono (by decide)) h.2 (f_var 1)) a_nil)) a_nil))) (f_one (f_call (ok_is_column T) (hr.mono (by decide)) tk T.d_is_column.mg T.d_is_column.kp (a_cons (f_ix (f_var 0) f_int) (a_cons (f_callB call_len2 n_len T.n_len (a_cons (Exists.elim (ok_Stack_layers T) fun _ h => f_propM T.f_Stack T.pr_Stack_layers h.1 (hr.mono (by decide)) h.2 (f_var 2)) a_nil)) a_nil))))))))
theorem sc_is_closed : FnScope ["listed", "pair", "one", "other", "deeds", "deed"] ["listed", "pair", "one", "other", "deeds"] (defScope s_is_closed) := ⟨rfl, rfl, rfl, by decide +kernel, rfl, by decide +kernel, by decide +kernel⟩
def b_is_closed : Sl → Sto → RS := (SRet (FB fnAll (ACons (FLc 300 (ITu (FVar 4)) (.one 5) TYes (FNIn false (FB m_pair_after (ACons (FVar 2) (ACons (FVar 3) (ACons (FVar 1) (ACons (FVar 5) ANil))))) (FVar 0)) [5]) ANil)))
def m_is_closed : DN := mFn 5 6 b_is_closed
theorem ok_is_closed {A : Ad} (T : Tx P w K mg A) : FnR P w K mg base (L2.CX P w) 13 A.a_is_closed (spF ⟨K, A.cl⟩ m_is_closed) := by
  obtain ⟨fd, F, hm⟩ := T.d_is_closed.ex
  have sc := sc_is_closed
  refine fnr_of (fn_ok F sc (cl := A.cl) (B := b_is_closed) fun cdv A2 outer s H E hr tk => ?_) (F.binds (ps := ["listed", "pair", "one", "other", "deeds"]) fun _ _ _ _ _ _ us hl => match us, hl with | [_, _, _, _, _], _ => by kernel_rfl)
  have hu := hr.units
  unfold b_is_closed
  exact (ss_one (s_ret (f_callB (cr_all rfl) n_all T.n_all (a_cons (f_lc (fuel := 300) (t := (.one 5)) (own := [("deed", 5)]) rfl sc.nd (i_tup (f_var 4)) (blkOk_by (N := ["listed", "pair", "one", "other", "deeds", "deed"]) (sc := defScope s_is_closed) (by decide +kernel)) (fun _ _ _ _ _ => (pg_name sc.nd rfl (by first | exact Or.inl rfl | exact Or.inr rfl) (by first | exact Or.inl rfl | exact Or.inr rfl))) (tg_one (by decide)) (fun _ _ _ _ _ => ts_nil) (fun _ _ _ _ _ => (f_nin T.pw (hu65 hr) (f_call (ok_pair_after T) (hr.mono (by decide)) tk0 T.d_pair_after.mg T.d_pair_after.kp (a_cons (f_var 2) (a_cons (f_var 3) (a_cons (f_var 1) (a_cons (f_var 5) a_nil))))) (f_var 0)))) a_nil))))
theorem sc_Alike_shows : FnScope ["self", "one", "other", "shared", "listed", "deeds", "pair"] ["self", "one", "other", "shared"] (defScope s_Alike_shows) := ⟨rfl, rfl, rfl, by decide +kernel, rfl, by decide +kernel, by decide +kernel⟩
def b_Alike_shows : Sl → Sto → RS := (SSeq (SExp (FB m_check_both (ACons (FVar 1) (ACons (FVar 2) ANil)))) (SSeq (SIf (TNot (TB (FB fnAll (ACons (FLc 300 (ILs (FFld 1 0 (FVar 0))) (.one 6) TYes (FB m_is_pair (ACons (FVar 6) (ACons (FVar 1) (ACons (FVar 2) ANil)))) [6]) ANil)))) (SRet (FC (.bl false))) SNx) (SSeq (SAsg (FDcN 300 (ILs (FFld 1 0 (FVar 0))) (.one 6) TYes (FVar 6) (FC (.bl true)) [6]) (gN 4)) (SSeq (SIf (TNot (TB (FB fnAll (ACons (FLc 300 (IKL (FB m_first_pairs (ACons (FVar 1) (ACons (FVar 2) ANil)))) (.one 6) TYes (FNIn false (FVar 6) (FVar 4)) [6]) ANil)))) (SRet (FC (.bl false))) SNx) (SSeq (SAsg (FB m_compared_deeds (ACons (FVar 3) ANil)) (gN 5)) (SRet (FB fnAll (ACons (FLockN 4 (FLc 300 (IKN (FVar 4)) (.one 6) TYes (FB m_is_closed (ACons (FVar 4) (ACons (FVar 6) (ACons (FVar 1) (ACons (FVar 2) (ACons (FVar 5) ANil)))))) [6])) ANil))))))))
def m_Alike_shows : DN := mFn 4 7 b_Alike_shows
theorem okF_Alike_shows {A : Ad} (T : Tx P w K mg A) : ∃ fd, FunD K "shows" "Alike.shows" (defArgs s_Alike_shows) (defBody s_Alike_shows) (defScope s_Alike_shows) [] [("shared", .bl true)] A.a_Alike_shows fd ∧ FnOk P w K mg base (L2.CX P w) 14 A.a_Alike_shows fd ["self", "one", "other", "shared"] (spF ⟨K, A.cl⟩ m_Alike_shows) := by
  obtain ⟨fd, F⟩ := T.d_Alike_shows.ex
  have sc := sc_Alike_shows
  refine ⟨fd, F, fn_okK (x := "shows") (qual := "Alike.shows") (st := s_Alike_shows) (N := ["self", "one", "other", "shared", "listed", "deeds", "pair"]) (ps := ["self", "one", "other", "shared"]) (k := 13) F sc (cl := A.cl) (B := b_Alike_shows) fun cdv A2 outer s H E hr tk => ?_⟩
  have hu := hr.units
  unfold b_Alike_shows
  exact (ss_cons (s_expr (f_call (ok_check_both T) (hr.mono (by decide)) tk T.d_check_both.mg T.d_check_both.kp (a_cons (f_var 1) (a_cons (f_var 2) a_nil)))) (ss_cons (s_if (t_not (t_val (f_callB (cr_all rfl) n_all T.n_all (a_cons (f_lc (fuel := 300) (t := (.one 6)) (own := [("pair", 6)]) rfl sc.nd (j_list (f_fld (i := 0) T.f_Alike (f_var 0) (by rw [T.e_Alike]; rfl))) (blkOk_by (N := ["self", "one", "other", "shared", "listed", "deeds", "pair"]) (sc := defScope s_Alike_shows) (by decide +kernel)) (fun _ _ _ _ _ => (pg_name sc.nd rfl (by first | exact Or.inl rfl | exact Or.inr rfl) (by first | exact Or.inl rfl | exact Or.inr rfl))) (tg_one (by decide)) (fun _ _ _ _ _ => ts_nil) (fun _ _ _ _ _ => (f_call (ok_is_pair T) (hr.mono (by decide)) tk0 T.d_is_pair.mg T.d_is_pair.kp (a_cons (f_var 6) (a_cons (f_var 1) (a_cons (f_var 2) a_nil)))))) a_nil)))) (ss_one (s_ret f_bl)) ss_nil) (ss_cons (s_set (i := 4) sc.nd (f_dcN (fuel := 300) (t := (.one 6)) (own := [("pair", 6)]) T.pw (hu65 hr) rfl sc.nd (j_list (f_fld (i := 0) T.f_Alike (f_var 0) (by rw [T.e_Alike]; rfl))) (blkOk_by (N := ["self", "one", "other", "shared", "listed", "deeds", "pair"]) (sc := defScope s_Alike_shows) (by decide +kernel)) (fun _ _ _ _ _ => (pg_name sc.nd rfl (by first | exact Or.inl rfl | exact Or.inr rfl) (by first | exact Or.inl rfl | exact Or.inr rfl))) (tg_one (by decide)) (fun _ _ _ _ _ => ts_nil) (fun _ _ _ _ _ => (f_var 6)) (fun _ _ _ _ _ => f_bl))) (ss_cons (s_if (t_not (t_val (f_callB (cr_all rfl) n_all T.n_all (a_cons (f_lc (fuel := 300) (t := (.one 6)) (own := [("pair", 6)]) rfl sc.nd (i_keysL T.pw (f_call (ok_first_pairs T) (hr.mono (by decide)) tk T.d_first_pairs.mg T.d_first_pairs.kp (a_cons (f_var 1) (a_cons (f_var 2) a_nil)))) (blkOk_by (N := ["self", "one", "other", "shared", "listed", "deeds", "pair"]) (sc := defScope s_Alike_shows) (by decide +kernel)) (fun _ _ _ _ _ => (pg_name sc.nd rfl (by first | exact Or.inl rfl | exact Or.inr rfl) (by first | exact Or.inl rfl | exact Or.inr rfl))) (tg_one (by decide)) (fun _ _ _ _ _ => ts_nil) (fun _ _ _ _ _ => (f_nin T.pw (hu65 hr) (f_var 6) (f_var 4)))) a_nil)))) (ss_one (s_ret f_bl)) ss_nil) (ss_cons (s_set (i := 5) sc.nd (f_call (ok_compared_deeds T) (hr.mono (by decide)) tk T.d_compared_deeds.mg T.d_compared_deeds.kp (a_cons (f_var 3) a_nil))) (ss_one (s_ret (f_callB (cr_all rfl) n_all T.n_all (a_cons (f_lockN (i := 4) (f_lc (fuel := 300) (t := (.one 6)) (own := [("pair", 6)]) rfl sc.nd (i_keysN T.pw (f_var 4)) (blkOk_by (N := ["self", "one", "other", "shared", "listed", "deeds", "pair"]) (sc := defScope s_Alike_shows) (by decide +kernel)) (fun _ _ _ _ _ => (pg_name sc.nd rfl (by first | exact Or.inl rfl | exact Or.inr rfl) (by first | exact Or.inl rfl | exact Or.inr rfl))) (tg_one (by decide)) (fun _ _ _ _ _ => ts_nil) (fun _ _ _ _ _ => (f_call (ok_is_closed T) (hr.mono (by decide)) tk0 T.d_is_closed.mg T.d_is_closed.kp (a_cons (f_var 4) (a_cons (f_var 6) (a_cons (f_var 1) (a_cons (f_var 2) (a_cons (f_var 5) a_nil))))))))) a_nil)))))))))
theorem okR_Alike_shows {A : Ad} (T : Tx P w K mg A) : FnR P w K mg base (L2.CX P w) 14 A.a_Alike_shows (spF ⟨K, A.cl⟩ (mKwD 4 (.bl true) m_Alike_shows)) := by
  obtain ⟨fd, F, G⟩ := okF_Alike_shows (base := base) T
  exact fnr_kwd (ps := ["self", "one", "other", "shared"]) (v := .bl true) G (F.binds0 3 (by simp) rfl fun _ _ _ _ _ _ us ks hl h1 => match us, hl, ks, h1 with | [_, _, _], _, [_], _ => ⟨_, _, _, _, _, _, rfl, rfl, rfl⟩) (fun _ _ => rfl)
theorem okK_Alike_shows {A : Ad} (T : Tx P w K mg A) : FnRK P w K mg base (L2.CX P w) 14 A.a_Alike_shows 3 ["shared"] (spF ⟨K, A.cl⟩ m_Alike_shows) := by
  obtain ⟨fd, F, G⟩ := okF_Alike_shows (base := base) T
  exact fnrk_of G (kbn_of F 3 ["shared"] (by simp) fun _ _ _ _ _ _ us ws hl h1 => match us, hl, ws, h1 with | [_, _, _], _, [_], _ => by kernel_rfl)
theorem sc_all_choices : FnScope ["count", "choices", "at", "choice"] ["count"] (defScope s_all_choices) := ⟨rfl, rfl, rfl, by decide +kernel, rfl, by decide +kernel, by decide +kernel⟩
def b_all_choices : Sl → Sto → RS := (SSeq (SAsg (FLst (ACons (FTup ANil) ANil)) (gN 1)) (SSeq (SFor 300 (IRg1 (ACons (F2 opSub (FVar 0) (FC (.int 1))) ANil)) (gN 2) (SAsg (F2 opAdd (FVar 1) (FLc 300 (ILs (FVar 1)) (.one 3) TYes (F2 opAdd (FVar 3) (FTup (ACons (FVar 2) ANil))) [3])) (gN 1))) (SRet (FSortLen (FLc 300 (ILs (FVar 1)) (.one 3) TYes (F2 opAdd (FVar 3) (FTup (ACons (F2 opSub (FVar 0) (FC (.int 1))) ANil))) [3])))))
def m_all_choices : DN := mFn 1 4 b_all_choices
theorem ok_all_choices {A : Ad} (T : Tx P w K mg A) : FnR P w K mg base (L2.CX P w) 1 A.a_all_choices (spF ⟨K, A.cl⟩ m_all_choices) := by
  obtain ⟨fd, F, hm⟩ := T.d_all_choices.ex
  have sc := sc_all_choices
  refine fnr_of (fn_ok F sc (cl := A.cl) (B := b_all_choices) fun cdv A2 outer s H E hr tk => ?_) (F.binds (ps := ["count"]) fun _ _ _ _ _ _ us hl => match us, hl with | [_], _ => by kernel_rfl)
  have hu := hr.units
  unfold b_all_choices
  exact (ss_cons (s_set (i := 1) sc.nd (f_lst (a_cons (f_tup a_nil) a_nil))) (ss_cons (s_for (fuel := 300) (passes_of rfl) rfl (j_rng1 T.n_range (a_cons (f_op op_sub o_sub (f_var 0) f_int) a_nil)) (g_name (i := 2) sc.nd) nx_name (ss_one (s_set (i := 1) sc.nd (f_op op_add3 o_add (f_var 1) (f_lc (fuel := 300) (t := (.one 3)) (own := [("choice", 3)]) rfl sc.nd (j_list (f_var 1)) (blkOk_by (N := ["count", "choices", "at", "choice"]) (sc := defScope s_all_choices) (by decide +kernel)) (fun _ _ _ _ _ => (pg_name sc.nd rfl (by first | exact Or.inl rfl | exact Or.inr rfl) (by first | exact Or.inl rfl | exact Or.inr rfl))) (tg_one (by decide)) (fun _ _ _ _ _ => ts_nil) (fun _ _ _ _ _ => (f_op op_add3 o_add (f_var 3) (f_tup (a_cons (f_var 2) a_nil))))))))) (ss_one (s_ret (f_sortLen (hu5 hr) T.n_sorted T.n_len (f_lc (fuel := 300) (t := (.one 3)) (own := [("choice", 3)]) rfl sc.nd (j_list (f_var 1)) (blkOk_by (N := ["count", "choices", "at", "choice"]) (sc := defScope s_all_choices) (by decide +kernel)) (fun _ _ _ _ _ => (pg_name sc.nd rfl (by first | exact Or.inl rfl | exact Or.inr rfl) (by first | exact Or.inl rfl | exact Or.inr rfl))) (tg_one (by decide)) (fun _ _ _ _ _ => ts_nil) (fun _ _ _ _ _ => (f_op op_add3 o_add (f_var 3) (f_tup (a_cons (f_op op_sub o_sub (f_var 0) f_int) a_nil))))))))))
theorem sc_Stack__contents : FnScope ["self", "columns", "at", "key", "column"] ["self"] (defScope s_Stack__contents) := ⟨rfl, rfl, rfl, by decide +kernel, rfl, by decide +kernel, by decide +kernel⟩
def b_Stack__contents : Sl → Sto → RS := (SSeq (SAsg (FFld 0 1 (FVar 0)) (gN 1)) (SRet (FB fnTuple (ACons (FLc 300 (IRg1 (ACons (FB fnLen (ACons (FFld 0 0 (FVar 0)) ANil)) ANil)) (.one 2) TYes (FLock 1 (FDc 300 (IIt (FVar 1)) (.two 3 4) (TB (F2 (opIsN true) (F2 opIx (FVar 4) (FVar 2)) (FC .non))) (FVar 3) (F2 opIx (FVar 4) (FVar 2)) [3, 4])) [2]) ANil))))
def m_Stack__contents : DN := mFn 1 5 b_Stack__contents
theorem ok_Stack__contents {A : Ad} (T : Tx P w K mg A) : FnR P w K mg base (L2.CX P w) 1 A.a_Stack__contents (spF ⟨K, A.cl⟩ m_Stack__contents) := by
  obtain ⟨fd, F⟩ := T.d_Stack__contents.ex
  have sc := sc_Stack__contents
  refine fnr_of (fn_ok F sc (cl := A.cl) (B := b_Stack__contents) fun cdv A2 outer s H E hr tk => ?_) (F.binds (ps := ["self"]) fun _ _ _ _ _ _ us hl => match us, hl with | [_], _ => by kernel_rfl)
  have hu := hr.units
  unfold b_Stack__contents
  exact (ss_cons (s_set (i := 1) sc.nd (f_fld (i := 1) T.f_Stack (f_var 0) (by rw [T.e_Stack]; rfl))) (ss_one (s_ret (f_callTy call_tuple_of n_tuple T.n_tuple (a_cons (f_lc (fuel := 300) (t := (.one 2)) (own := [("at", 2)]) rfl sc.nd (j_rng1 T.n_range (a_cons (f_callB call_len2 n_len T.n_len (a_cons (f_fld (i := 0) T.f_Stack (f_var 0) (by rw [T.e_Stack]; rfl)) a_nil)) a_nil)) (blkOk_by (N := ["self", "columns", "at", "key", "column"]) (sc := defScope s_Stack__contents) (by decide +kernel)) (fun _ _ _ _ _ => (pg_name sc.nd rfl (by first | exact Or.inl rfl | exact Or.inr rfl) (by first | exact Or.inl rfl | exact Or.inr rfl))) (tg_one (by decide)) (fun _ _ _ _ _ => ts_nil) (fun _ _ _ _ _ => (f_lock (i := 1) (f_dc (fuel := 300) (t := (.two 3 4)) (own := [("key", 3), ("column", 4)]) rfl sc.nd (j_items (f_var 1)) (blkOk_by (by rfl)) (fun _ _ _ _ _ => (pg_tup rfl (pgs_cons (pg_name sc.nd rfl (by first | exact Or.inl rfl | exact Or.inr rfl) (by first | exact Or.inl rfl | exact Or.inr rfl)) (pgs_cons (pg_name sc.nd rfl (by first | exact Or.inl rfl | exact Or.inr rfl) (by first | exact Or.inl rfl | exact Or.inr rfl)) pgs_nil rfl) rfl) rfl rfl)) (tg_two (by decide) (by decide)) (fun _ _ _ _ _ => (ts_one (t_cmp op_notN o_notN (f_ix (f_var 4) (f_var 2)) f_non (nomark _)))) (fun _ _ _ _ _ => (f_var 3)) (fun _ _ _ _ _ => (f_ix (f_var 4) (f_var 2))))))) a_nil)))))
theorem sc_Stack_chosen : FnScope ["self", "choice", "contents", "at"] ["self", "choice"] (defScope s_Stack_chosen) := ⟨rfl, rfl, rfl, by decide +kernel, rfl, by decide +kernel, by decide +kernel⟩
def b_Stack_chosen : Sl → Sto → RS := (SSeq (SAsg (FMeth0 0 m_Stack__contents (FVar 0)) (gN 2)) (SRet (FB (mNew 0 m_Stack___init__) (ACons (FB fnTuple (ACons (FLc 300 (ITu (FVar 1)) (.one 3) TYes (F2 opIx (FFld 0 0 (FVar 0)) (FVar 3)) [3]) ANil)) (ACons (FB fnTuple (ACons (FLc 300 (ITu (FVar 1)) (.one 3) TYes (F2 opIx (FVar 2) (FVar 3)) [3]) ANil)) ANil)))))
def m_Stack_chosen : DN := mFn 2 4 b_Stack_chosen
theorem ok_Stack_chosen {A : Ad} (T : Tx P w K mg A) : FnR P w K mg base (L2.CX P w) 7 A.a_Stack_chosen (spF ⟨K, A.cl⟩ m_Stack_chosen) := by
  obtain ⟨fd, F⟩ := T.d_Stack_chosen.ex
  have sc := sc_Stack_chosen
  refine fnr_of (fn_ok F sc (cl := A.cl) (B := b_Stack_chosen) fun cdv A2 outer s H E hr tk => ?_) (F.binds (ps := ["self", "choice"]) fun _ _ _ _ _ _ us hl => match us, hl with | [_, _], _ => by kernel_rfl)
  have hu := hr.units
  unfold b_Stack_chosen
  exact (ss_cons (s_set (i := 2) sc.nd (f_meth0 T.f_Stack (ok_Stack__contents T) (hr.mono (by decide)) tk T.me_Stack__contents (by rw [T.e_Stack]; decide) (f_var 0))) (ss_one (s_ret (f_new T.mk_Stack (ok_Stack___init__ T) (hr.mono (by decide)) tk T.g_Stack (a_cons (f_callTy call_tuple_of n_tuple T.n_tuple (a_cons (f_lc (fuel := 300) (t := (.one 3)) (own := [("at", 3)]) rfl sc.nd (i_tup (f_var 1)) (blkOk_by (N := ["self", "choice", "contents", "at"]) (sc := defScope s_Stack_chosen) (by decide +kernel)) (fun _ _ _ _ _ => (pg_name sc.nd rfl (by first | exact Or.inl rfl | exact Or.inr rfl) (by first | exact Or.inl rfl | exact Or.inr rfl))) (tg_one (by decide)) (fun _ _ _ _ _ => ts_nil) (fun _ _ _ _ _ => (f_ix (f_fld (i := 0) T.f_Stack (f_var 0) (by rw [T.e_Stack]; rfl)) (f_var 3)))) a_nil)) (a_cons (f_callTy call_tuple_of n_tuple T.n_tuple (a_cons (f_lc (fuel := 300) (t := (.one 3)) (own := [("at", 3)]) rfl sc.nd (i_tup (f_var 1)) (blkOk_by (N := ["self", "choice", "contents", "at"]) (sc := defScope s_Stack_chosen) (by decide +kernel)) (fun _ _ _ _ _ => (pg_name sc.nd rfl (by first | exact Or.inl rfl | exact Or.inr rfl) (by first | exact Or.inl rfl | exact Or.inr rfl))) (tg_one (by decide)) (fun _ _ _ _ _ => ts_nil) (fun _ _ _ _ _ => (f_ix (f_var 2) (f_var 3)))) a_nil)) a_nil))))))
theorem sc_Fewest___init__ : FnScope ["self", "kept", "pairs", "parts", "choice"] ["self", "kept", "pairs", "parts"] (defScope s_Fewest___init__) := ⟨rfl, rfl, rfl, by decide +kernel, rfl, by decide +kernel, by decide +kernel⟩
def b_Fewest___init__ : Sl → Sto → RS := (SSeq (SFld 3 0 (FVar 0) (FVar 1)) (SSeq (SFld 3 1 (FVar 0) (FB fnList2 (ACons (FVar 2) ANil))) (SFld 3 2 (FVar 0) (FLockN 3 (FDcN 300 (IKN (FVar 3)) (.one 4) TYes (FVar 4) (FNGet (FVar 3) (FVar 4)) [4])))))
def m_Fewest___init__ : DN := mFn 4 5 b_Fewest___init__
theorem ok_Fewest___init__ {A : Ad} (T : Tx P w K mg A) : FnR P w K mg base (L2.CX P w) 1 A.a_Fewest___init__ (spF ⟨K, A.cl⟩ m_Fewest___init__) := by
  obtain ⟨fd, F⟩ := T.d_Fewest___init__.ex
  have sc := sc_Fewest___init__
  refine fnr_of (fn_ok F sc (cl := A.cl) (B := b_Fewest___init__) fun cdv A2 outer s H E hr tk => ?_) (F.binds (ps := ["self", "kept", "pairs", "parts"]) fun _ _ _ _ _ _ us hl => match us, hl with | [_, _, _, _], _ => by kernel_rfl)
  have hu := hr.units
  unfold b_Fewest___init__
  exact (ss_cons (s_fld (i := 0) T.f_Fewest (f_var 0) (f_var 1) (by rw [T.e_Fewest]; rfl)) (ss_cons (s_fld (i := 1) T.f_Fewest (f_var 0) (f_callTy (call_list2 rfl) n_list2 T.n_list (a_cons (f_var 2) a_nil)) (by rw [T.e_Fewest]; rfl)) (ss_one (s_fld (i := 2) T.f_Fewest (f_var 0) (f_lockN (i := 3) (f_dcN (fuel := 300) (t := (.one 4)) (own := [("choice", 4)]) T.pw (hu65 hr) rfl sc.nd (i_keysN T.pw (f_var 3)) (blkOk_by (N := ["self", "kept", "pairs", "parts", "choice"]) (sc := defScope s_Fewest___init__) (by decide +kernel)) (fun _ _ _ _ _ => (pg_name sc.nd rfl (by first | exact Or.inl rfl | exact Or.inr rfl) (by first | exact Or.inl rfl | exact Or.inr rfl))) (tg_one (by decide)) (fun _ _ _ _ _ => ts_nil) (fun _ _ _ _ _ => (f_var 4)) (fun _ _ _ _ _ => (f_nget T.pw (hu65 hr) (f_var 3) (f_var 4))))) (by rw [T.e_Fewest]; rfl)))))
theorem sc_fewest : FnScope ["stack", "shared", "choices", "parts", "found", "kept", "choice"] ["stack", "shared"] (defScope s_fewest) := ⟨rfl, rfl, rfl, by decide +kernel, rfl, by decide +kernel, by decide +kernel⟩
def b_fewest : Sl → Sto → RS := (SSeq (SExp (FB m_check_stack (ACons (FVar 0) ANil))) (SSeq (SAsg (FB m_all_choices (ACons (FB fnLen (ACons (FProp 0 m_Stack_layers (FVar 0)) ANil)) ANil)) (gN 2)) (SSeq (SAsg (fun _ S => newDct S) (gN 3)) (SSeq (SAsg (FKw 2 1 m_alike (ACons (FVar 0) (ACons (FMeth 0 m_Stack_chosen (FVar 0) (ACons (F2 opIx (FVar 2) (FC (.int 0))) ANil)) ANil)) (ACons (FVar 1) ANil)) (gN 4)) (SSeq (SWhile 300 (TB (FIsC 4 2 (FVar 4))) (SSeq (SNPut (FVar 3) (F2 opIx (FVar 2) (FB fnLenN (ACons (FVar 3) ANil))) (FTup (ACons (FFld 2 0 (FVar 4)) (ACons (FFld 2 1 (FVar 4)) ANil)))) (SAsg (FKw 2 1 m_alike (ACons (FVar 0) (ACons (FMeth 0 m_Stack_chosen (FVar 0) (ACons (F2 opIx (FVar 2) (FB fnLenN (ACons (FVar 3) ANil))) ANil)) ANil)) (ACons (FVar 1) ANil)) (gN 4)))) (SSeq (SAsg (F2 opIx (FVar 2) (FB fnLenN (ACons (FVar 3) ANil))) (gN 5)) (SRet (FB (mNew 3 m_Fewest___init__) (ACons (FVar 5) (ACons (FFld 1 0 (FVar 4)) (ACons (FLockN 3 (FDcN 300 (IKN (FVar 3)) (.one 6) (TB (F2 (cmpI (fun i j => decide (i < j))) (FB fnLen (ACons (FVar 6) ANil)) (FB fnLen (ACons (FVar 5) ANil)))) (FVar 6) (FNGet (FVar 3) (FVar 6)) [6])) ANil)))))))))))
def m_fewest : DN := mFn 2 7 b_fewest
theorem okF_fewest {A : Ad} (T : Tx P w K mg A) : ∃ fd, FunD K "fewest" "fewest" (defArgs s_fewest) (defBody s_fewest) (defScope s_fewest) [] [("shared", .bl true)] A.a_fewest fd ∧ FnOk P w K mg base (L2.CX P w) 15 A.a_fewest fd ["stack", "shared"] (spF ⟨K, A.cl⟩ m_fewest) := by
  obtain ⟨fd, F⟩ := T.d_fewest.ex
  have sc := sc_fewest
  refine ⟨fd, F, fn_okK (x := "fewest") (qual := "fewest") (st := s_fewest) (N := ["stack", "shared", "choices", "parts", "found", "kept", "choice"]) (ps := ["stack", "shared"]) (k := 14) F sc (cl := A.cl) (B := b_fewest) fun cdv A2 outer s H E hr tk => ?_⟩
  have hu := hr.units
  unfold b_fewest
  exact (ss_cons (s_expr (f_call (ok_check_stack T) (hr.mono (by decide)) tk T.d_check_stack.mg T.d_check_stack.kp (a_cons (f_var 0) a_nil))) (ss_cons (s_set (i := 2) sc.nd (f_call (ok_all_choices T) (hr.mono (by decide)) tk T.d_all_choices.mg T.d_all_choices.kp (a_cons (f_callB call_len2 n_len T.n_len (a_cons (Exists.elim (ok_Stack_layers T) fun _ h => f_propM T.f_Stack T.pr_Stack_layers h.1 (hr.mono (by decide)) h.2 (f_var 0)) a_nil)) a_nil))) (ss_cons (s_set (i := 3) sc.nd f_dnew) (ss_cons (s_set (i := 4) sc.nd (f_callK (okK_alike T) (hr.mono (by decide)) tk T.d_alike.mg T.d_alike.kp (a_cons (f_var 0) (a_cons (f_meth T.f_Stack (ok_Stack_chosen T) (hr.mono (by decide)) tk T.me_Stack_chosen (by rw [T.e_Stack]; decide) (f_var 0) (a_cons (f_ix (f_var 2) f_int) a_nil)) a_nil)) (k_one (f_var 1)))) (ss_cons (s_while (fuel := 300) (passes_of rfl) (t_val (f_isC T.kC T.i_Parts T.n_isinstance T.g_Parts (f_var 4))) (ss_cons (s_nput T.pw (hu65 hr) (f_var 3) (f_ix (f_var 2) (f_callB (call_lenN T.pw []) (n_lenN []) T.n_len (a_cons (f_var 3) a_nil))) (f_tup (a_cons (f_fld (i := 0) T.f_Parts (f_var 4) (by rw [T.e_Parts]; rfl)) (a_cons (f_fld (i := 1) T.f_Parts (f_var 4) (by rw [T.e_Parts]; rfl)) a_nil)))) (ss_one (s_set (i := 4) sc.nd (f_callK (okK_alike T) (hr.mono (by decide)) tk T.d_alike.mg T.d_alike.kp (a_cons (f_var 0) (a_cons (f_meth T.f_Stack (ok_Stack_chosen T) (hr.mono (by decide)) tk T.me_Stack_chosen (by rw [T.e_Stack]; decide) (f_var 0) (a_cons (f_ix (f_var 2) (f_callB (call_lenN T.pw []) (n_lenN []) T.n_len (a_cons (f_var 3) a_nil))) a_nil)) a_nil)) (k_one (f_var 1))))))) (ss_cons (s_set (i := 5) sc.nd (f_ix (f_var 2) (f_callB (call_lenN T.pw []) (n_lenN []) T.n_len (a_cons (f_var 3) a_nil)))) (ss_one (s_ret (f_new T.mk_Fewest (ok_Fewest___init__ T) (hr.mono (by decide)) tk T.g_Fewest (a_cons (f_var 5) (a_cons (f_fld (i := 0) T.f_Alike (f_var 4) (by rw [T.e_Alike]; rfl)) (a_cons (f_lockN (i := 3) (f_dcN (fuel := 300) (t := (.one 6)) (own := [("choice", 6)]) T.pw (hu65 hr) rfl sc.nd (i_keysN T.pw (f_var 3)) (blkOk_by (N := ["stack", "shared", "choices", "parts", "found", "kept", "choice"]) (sc := defScope s_fewest) (by decide +kernel)) (fun _ _ _ _ _ => (pg_name sc.nd rfl (by first | exact Or.inl rfl | exact Or.inr rfl) (by first | exact Or.inl rfl | exact Or.inr rfl))) (tg_one (by decide)) (fun _ _ _ _ _ => (ts_one (t_cmp op_lt (o_cmpI (fun i j => decide (i < j))) (f_callB call_len2 n_len T.n_len (a_cons (f_var 6) a_nil)) (f_callB call_len2 n_len T.n_len (a_cons (f_var 5) a_nil)) (nomark _)))) (fun _ _ _ _ _ => (f_var 6)) (fun _ _ _ _ _ => (f_nget T.pw (hu65 hr) (f_var 3) (f_var 6))))) a_nil))))))))))))
theorem okR_fewest {A : Ad} (T : Tx P w K mg A) : FnR P w K mg base (L2.CX P w) 15 A.a_fewest (spF ⟨K, A.cl⟩ (mKwD 2 (.bl true) m_fewest)) := by
  obtain ⟨fd, F, G⟩ := okF_fewest (base := base) T
  exact fnr_kwd (ps := ["stack", "shared"]) (v := .bl true) G (F.binds0 1 (by simp) rfl fun _ _ _ _ _ _ us ks hl h1 => match us, hl, ks, h1 with | [_], _, [_], _ => ⟨_, _, _, _, _, _, rfl, rfl, rfl⟩) (fun _ _ => rfl)
theorem okK_fewest {A : Ad} (T : Tx P w K mg A) : FnRK P w K mg base (L2.CX P w) 15 A.a_fewest 1 ["shared"] (spF ⟨K, A.cl⟩ m_fewest) := by
  obtain ⟨fd, F, G⟩ := okF_fewest (base := base) T
  exact fnrk_of G (kbn_of F 1 ["shared"] (by simp) fun _ _ _ _ _ _ us ws hl h1 => match us, hl, ws, h1 with | [_], _, [_], _ => by kernel_rfl)
theorem sc__law_alike_right : FnScope ["plain", "through", "double", "single", "deeds", "rows", "pairs", "lists", "shown", "down", "keeping", "some", "row"] [] (defScope s__law_alike_right) := ⟨rfl, rfl, rfl, by decide +kernel, rfl, by decide +kernel, by decide +kernel⟩
def b__law_alike_right_0 : Sl → Sto → RS := (SAsg (FTup (ACons (FTup (ACons (FC (.str "here")) (ACons (FC (.str "here")) (ACons (FC (.str "look")) (ACons (FC .non) ANil))))) (ACons (FTup (ACons (FC (.str "both")) (ACons (FC (.str "both")) (ACons (FC (.str "look")) (ACons (FC .non) ANil))))) ANil))) (gT 2 [(gN 0), (gN 1)]))
def b__law_alike_right_1 : Sl → Sto → RS := (SAsg (FTup (ACons (FB (fun ds S => m_Stack_of (.cls 0 :: ds) S) (ACons (FVar 1) (ACons (FVar 0) ANil))) (ACons (FB (fun ds S => m_Stack_of (.cls 0 :: ds) S) (ACons (FVar 0) ANil)) ANil))) (gT 2 [(gN 2), (gN 3)]))
def b__law_alike_right_2 : Sl → Sto → RS := (SIf (TGc (TB (F2 (opEqB true) (FLst (ACons (FGc (FB (mKwD 3 (.bl true) m_soonest) (ACons (FVar 2) (ACons (FVar 3) ANil)))) (ACons (FGc (FKw 2 1 m_soonest (ACons (FVar 2) (ACons (FVar 3) ANil)) (ACons (FC (.bl false)) ANil))) (ACons (FGc (FB (mKwD 2 (.bl true) m_is_flat) (ACons (FVar 2) ANil))) ANil)))) (FLst (ACons (FC (.int 3)) (ACons (FC .non) (ACons (FC (.bl false)) ANil))))))) (SRet (FC (.bl false))) SNx)
def b__law_alike_right_3 : Sl → Sto → RS := (SIf (TOr (TNot (TGc (TB (FGc (FKw 1 1 m_is_flat (ACons (FVar 2) ANil) (ACons (FC (.bl false)) ANil)))))) (TNot (TGc (TB (FIsC 4 2 (FB (mKwD 3 (.bl true) m_alike) (ACons (FVar 2) (ACons (FVar 3) ANil)))))))) (SRet (FC (.bl false))) SNx)
def b__law_alike_right_4 : Sl → Sto → RS := (SAsg (FTup (ACons (FTup (ACons (FC (.str "write")) (ACons (FC (.int 0)) ANil))) (ACons (FTup (ACons (FC (.str "beneath")) (ACons (FC (.int 1)) ANil))) (ACons (FTup (ACons (FC (.str "ask")) ANil)) ANil)))) (gN 4))
def b__law_alike_right_5 : Sl → Sto → RS := (SAsg (FLst (ACons (FTup (ACons (FVar 4) (ACons (FC (.bl true)) ANil))) (ACons (FTup (ACons (FSl (FVar 4) PN (PI_ (FC (.int 2)))) (ACons (FC (.bl false)) ANil))) (ACons (FTup (ACons (FSl (FVar 4) (PI_ (FC (.int 1))) PN) (ACons (FC (.bl false)) ANil))) (ACons (FTup (ACons (FTup (ACons (FTup (ACons (FC (.str "write")) (ACons (FC (.int 5)) ANil))) (ACons (FTup (ACons (FC (.str "beneath")) (ACons (FC .non) ANil))) (ACons (FTup (ACons (FC (.str "has")) ANil)) ANil)))) (ACons (FC (.bl true)) ANil))) ANil))))) (gN 5))
def b__law_alike_right_6 : Sl → Sto → RS := (SAsg (F2 opAdd (FVar 5) (FLst (ACons (FTup (ACons (FTup (ACons (FTup (ACons (FC (.str "write")) (ACons (FC (.int 5)) ANil))) (ACons (FTup (ACons (FC (.str "beneath")) (ACons (FC (.int 5)) ANil))) (ACons (FTup (ACons (FC (.str "ask")) ANil)) ANil)))) (ACons (FC (.bl false)) ANil))) (ACons (FTup (ACons (FTup (ACons (FTup (ACons (FC (.str "beneath")) (ACons (FC (.int 5)) ANil))) (ACons (FTup (ACons (FC (.str "ask")) ANil)) ANil))) (ACons (FC (.bl false)) ANil))) (ACons (FTup (ACons (FTup ANil) (ACons (FC (.bl false)) ANil))) ANil))))) (gN 5))
def b__law_alike_right_7 : Sl → Sto → RS := (SIf (TGc (TB (F2 (opEqB true) (FLc 300 (ILs (FVar 5)) (.one 12) TYes (FGc (FMeth 2 (mKwD 4 (.bl true) m_Parts_shows) (FB (mNew 2 m_Parts___init__) (ACons (FC (.int 3)) (ACons (F2 opIx (FVar 12) (FC (.int 0))) ANil))) (ACons (FVar 2) (ACons (FVar 3) ANil)))) [12]) (FLc 300 (ILs (FVar 5)) (.one 12) TYes (F2 opIx (FVar 12) (FC (.int 1))) [12])))) (SRet (FC (.bl false))) SNx)
def b__law_alike_right_8 : Sl → Sto → RS := (SIf (TGc (TB (FB fnAny (ACons (FLc 300 (ILs (FVar 5)) (.one 12) TYes (FGc (FMethK 2 3 1 m_Parts_shows (FB (mNew 2 m_Parts___init__) (ACons (FC (.int 3)) (ACons (F2 opIx (FVar 12) (FC (.int 0))) ANil))) (ACons (FVar 2) (ACons (FVar 3) ANil)) (ACons (FC (.bl false)) ANil))) [12]) ANil)))) (SRet (FC (.bl false))) SNx)
def b__law_alike_right_9 : Sl → Sto → RS := (SAsg (FLst (ACons (FTup (ACons (FTup (ACons (FC .non) (ACons (FC .non) ANil))) (ACons (FTup (ACons (FC .non) ANil)) ANil))) (ACons (FTup (ACons (FTup (ACons (FC (.int 0)) (ACons (FC (.int 0)) ANil))) (ACons (FTup (ACons (FC (.int 0)) ANil)) ANil))) (ACons (FTup (ACons (FTup (ACons (FC (.int 1)) (ACons (FC (.int 1)) ANil))) (ACons (FTup (ACons (FC (.int 1)) ANil)) ANil))) ANil)))) (gN 6))
def b__law_alike_right_10 : Sl → Sto → RS := (SAsg (FLst (ACons (FVar 6) (ACons (FRev (FVar 6)) (ACons (FSl (FVar 6) (PI_ (FC (.int 1))) PN) (ACons (FSl (FVar 6) PN (PI_ (FC (.int 2)))) (ACons (F2 opAdd (FVar 6) (FLst (ACons (FTup (ACons (FTup (ACons (FC (.int 0)) (ACons (FC .non) ANil))) (ACons (FTup (ACons (FC (.int 0)) ANil)) ANil))) ANil))) (ACons (F2 opAdd (FVar 6) (FLst (ACons (FTup (ACons (FTup (ACons (FC (.int 0)) (ACons (FC (.int 1)) ANil))) (ACons (FTup (ACons (FC (.int 1)) ANil)) ANil))) ANil))) ANil))))))) (gN 7))
def b__law_alike_right_11 : Sl → Sto → RS := (SExp (FApp (FVar 7) (ACons (F2 opAdd (FVar 6) (FLst (ACons (FTup (ACons (FTup (ACons (FC (.int 7)) (ACons (FC (.int 7)) ANil))) (ACons (FTup (ACons (FC (.int 7)) ANil)) ANil))) ANil))) ANil)))
def b__law_alike_right_12 : Sl → Sto → RS := (SAsg (FLc 300 (ILs (FVar 7)) (.one 11) TYes (FGc (FMethK 1 3 1 m_Alike_shows (FB (mNew 1 m_Alike___init__) (ACons (FVar 11) ANil)) (ACons (FVar 2) (ACons (FVar 3) ANil)) (ACons (FC (.bl false)) ANil))) [11]) (gN 8))
def b__law_alike_right_13 : Sl → Sto → RS := (SIf (TOr (TB (F2 (opEqB true) (FVar 8) (FLst (ACons (FC (.bl true)) (ACons (FC (.bl true)) (ACons (FC (.bl false)) (ACons (FC (.bl false)) (ACons (FC (.bl true)) (ACons (FC (.bl false)) (ACons (FC (.bl true)) ANil)))))))))) (TGc (TB (FGc (FMeth 1 (mKwD 4 (.bl true) m_Alike_shows) (FB (mNew 1 m_Alike___init__) (ACons (FVar 6) ANil)) (ACons (FVar 2) (ACons (FVar 3) ANil))))))) (SRet (FC (.bl false))) SNx)
def b__law_alike_right_14 : Sl → Sto → RS := (SAsg (FB (fun ds S => m_Stack_of (.cls 0 :: ds) S) (ACons (FTup (ACons (FC (.str "down")) (ACons (FC (.str "down")) (ACons (FC (.str "look")) (ACons (FC .non) ANil))))) (ACons (FVar 0) ANil))) (gN 9))
def b__law_alike_right_15 : Sl → Sto → RS := (SIf (TOr (TGc (TB (F2 (opIsN true) (FGc (FB (mKwD 3 (.bl true) m_soonest) (ACons (FVar 9) (ACons (FVar 3) ANil)))) (FC .non)))) (TOr (TNot (TGc (TB (FGc (FB (mKwD 2 (.bl true) m_is_flat) (ACons (FVar 9) ANil)))))) (TGc (TB (F2 (opEqB true) (FGc (FFld 3 0 (FB (mKwD 2 (.bl true) m_fewest) (ACons (FVar 9) ANil)))) (FTup (ACons (FC (.int 1)) ANil))))))) (SRet (FC (.bl false))) SNx)
def b__law_alike_right_16 : Sl → Sto → RS := (SAsg (FB (fun ds S => m_Stack_of (.cls 0 :: ds) S) (ACons (FTup (ACons (FC (.str "down")) (ACons (FC (.str "down")) (ACons (FC (.str "keep")) (ACons (FC .non) ANil))))) (ACons (FVar 0) ANil))) (gN 10))
def b__law_alike_right_17 : Sl → Sto → RS := (SRet (FAnd (F2 (opEqB false) (FGc (FB (mKwD 3 (.bl true) m_soonest) (ACons (FVar 10) (ACons (FVar 3) ANil)))) (FC (.int 4))) (F2 (opEqB false) (FGc (FKw 2 1 m_soonest (ACons (FVar 10) (ACons (FVar 3) ANil)) (ACons (FC (.bl false)) ANil))) (FC (.int 4)))))
def b__law_alike_right : Sl → Sto → RS := (SSeq b__law_alike_right_0 (SSeq b__law_alike_right_1 (SSeq b__law_alike_right_2 (SSeq b__law_alike_right_3 (SSeq b__law_alike_right_4 (SSeq b__law_alike_right_5 (SSeq b__law_alike_right_6 (SSeq b__law_alike_right_7 (SSeq b__law_alike_right_8 (SSeq b__law_alike_right_9 (SSeq b__law_alike_right_10 (SSeq b__law_alike_right_11 (SSeq b__law_alike_right_12 (SSeq b__law_alike_right_13 (SSeq b__law_alike_right_14 (SSeq b__law_alike_right_15 (SSeq b__law_alike_right_16 b__law_alike_right_17)))))))))))))))))
def m__law_alike_right : DN := mFn 0 13 b__law_alike_right
theorem ok__law_alike_right {A : Ad} (T : Tx P w K mg A) : FnR P w K mg base (L2.CX P w) 17 A.a__law_alike_right (spF ⟨K, A.cl⟩ m__law_alike_right) := by
  obtain ⟨fd, F, hm⟩ := T.d__law_alike_right.ex
  have sc := sc__law_alike_right
  refine fnr_of (fn_ok F sc (cl := A.cl) (B := b__law_alike_right) fun cdv A2 outer s H E hr tk => ?_) (F.binds (ps := []) fun _ _ _ _ _ _ us hl => match us, hl with | [], _ => by kernel_rfl)
  have hu := hr.units
  unfold b__law_alike_right b__law_alike_right_0 b__law_alike_right_1 b__law_alike_right_2 b__law_alike_right_3 b__law_alike_right_4 b__law_alike_right_5 b__law_alike_right_6 b__law_alike_right_7 b__law_alike_right_8 b__law_alike_right_9 b__law_alike_right_10 b__law_alike_right_11 b__law_alike_right_12 b__law_alike_right_13 b__law_alike_right_14 b__law_alike_right_15 b__law_alike_right_16 b__law_alike_right_17
  exact (ss_cons (s_asg (f_tup (a_cons (f_tup (a_cons f_str (a_cons f_str (a_cons f_str (a_cons f_non a_nil))))) (a_cons (f_tup (a_cons f_str (a_cons f_str (a_cons f_str (a_cons f_non a_nil))))) a_nil))) (g_tup rfl (gs_cons (g_name (i := 0) sc.nd) (gs_cons (g_name (i := 1) sc.nd) gs_nil))) nx_tup) (ss_cons (s_asg (f_tup (a_cons (f_cmeth (c := 0) T.cr_Stack T.cm_Stack_of (ok_Stack_of T) (hr.mono (by decide)) tk T.g_Stack (a_cons (f_var 1) (a_cons (f_var 0) a_nil))) (a_cons (f_cmeth (c := 0) T.cr_Stack T.cm_Stack_of (ok_Stack_of T) (hr.mono (by decide)) tk T.g_Stack (a_cons (f_var 0) a_nil)) a_nil))) (g_tup rfl (gs_cons (g_name (i := 2) sc.nd) (gs_cons (g_name (i := 3) sc.nd) gs_nil))) nx_tup) (ss_cons (s_if (t_gc (t_cmp (op_neD hu) o_ne (f_lst (a_cons (f_gc (f_call (okR_soonest T) (hr.mono (by decide)) tk T.d_soonest.mg T.d_soonest.kp (a_cons (f_var 2) (a_cons (f_var 3) a_nil)))) (a_cons (f_gc (f_callK (okK_soonest T) (hr.mono (by decide)) tk T.d_soonest.mg T.d_soonest.kp (a_cons (f_var 2) (a_cons (f_var 3) a_nil)) (k_one f_bl))) (a_cons (f_gc (f_call (okR_is_flat T) (hr.mono (by decide)) tk T.d_is_flat.mg T.d_is_flat.kp (a_cons (f_var 2) a_nil))) a_nil)))) (f_lst (a_cons f_int (a_cons f_non (a_cons f_bl a_nil)))) (nomark _))) (ss_one (s_ret f_bl)) ss_nil) (ss_cons (s_if (PW.pt (w_or (t_not (t_gc (t_val (f_gc (f_callK (okK_is_flat T) (hr.mono (by decide)) tk T.d_is_flat.mg T.d_is_flat.kp (a_cons (f_var 2) a_nil) (k_one f_bl)))))) (w_or1 (t_not (t_gc (t_val (f_isC T.kC T.i_Parts T.n_isinstance T.g_Parts (f_call (okR_alike T) (hr.mono (by decide)) tk T.d_alike.mg T.d_alike.kp (a_cons (f_var 2) (a_cons (f_var 3) a_nil)))))))))) (ss_one (s_ret f_bl)) ss_nil) (ss_cons (s_set (i := 4) sc.nd (f_tup (a_cons (f_tup (a_cons f_str (a_cons f_int a_nil))) (a_cons (f_tup (a_cons f_str (a_cons f_int a_nil))) (a_cons (f_tup (a_cons f_str a_nil)) a_nil))))) (ss_cons (s_set (i := 5) sc.nd (f_lst (a_cons (f_tup (a_cons (f_var 4) (a_cons f_bl a_nil))) (a_cons (f_tup (a_cons (f_slice (f_var 4) p_none (p_some f_int)) (a_cons f_bl a_nil))) (a_cons (f_tup (a_cons (f_slice (f_var 4) (p_some f_int) p_none) (a_cons f_bl a_nil))) (a_cons (f_tup (a_cons (f_tup (a_cons (f_tup (a_cons f_str (a_cons f_int a_nil))) (a_cons (f_tup (a_cons f_str (a_cons f_non a_nil))) (a_cons (f_tup (a_cons f_str a_nil)) a_nil)))) (a_cons f_bl a_nil))) a_nil)))))) (ss_cons (s_set (i := 5) sc.nd (f_op op_add3 o_add (f_var 5) (f_lst (a_cons (f_tup (a_cons (f_tup (a_cons (f_tup (a_cons f_str (a_cons f_int a_nil))) (a_cons (f_tup (a_cons f_str (a_cons f_int a_nil))) (a_cons (f_tup (a_cons f_str a_nil)) a_nil)))) (a_cons f_bl a_nil))) (a_cons (f_tup (a_cons (f_tup (a_cons (f_tup (a_cons f_str (a_cons f_int a_nil))) (a_cons (f_tup (a_cons f_str a_nil)) a_nil))) (a_cons f_bl a_nil))) (a_cons (f_tup (a_cons (f_tup a_nil) (a_cons f_bl a_nil))) a_nil)))))) (ss_cons (s_if (t_gc (t_cmp (op_neD hu) o_ne (f_lc (fuel := 300) (t := (.one 12)) (own := [("row", 12)]) rfl sc.nd (j_list (f_var 5)) (blkOk_by (N := ["plain", "through", "double", "single", "deeds", "rows", "pairs", "lists", "shown", "down", "keeping", "some", "row"]) (sc := defScope s__law_alike_right) (by decide +kernel)) (fun _ _ _ _ _ => (pg_name sc.nd rfl (by first | exact Or.inl rfl | exact Or.inr rfl) (by first | exact Or.inl rfl | exact Or.inr rfl))) (tg_one (by decide)) (fun _ _ _ _ _ => ts_nil) (fun _ _ _ _ _ => (f_gc (f_meth T.f_Parts (okR_Parts_shows T) (hr.mono (by decide)) tk0 T.me_Parts_shows (by rw [T.e_Parts]; decide) (f_new T.mk_Parts (ok_Parts___init__ T) (hr.mono (by decide)) tk0 T.g_Parts (a_cons f_int (a_cons (f_ix (f_var 12) f_int) a_nil))) (a_cons (f_var 2) (a_cons (f_var 3) a_nil)))))) (f_lc (fuel := 300) (t := (.one 12)) (own := [("row", 12)]) rfl sc.nd (j_list (f_var 5)) (blkOk_by (N := ["plain", "through", "double", "single", "deeds", "rows", "pairs", "lists", "shown", "down", "keeping", "some", "row"]) (sc := defScope s__law_alike_right) (by decide +kernel)) (fun _ _ _ _ _ => (pg_name sc.nd rfl (by first | exact Or.inl rfl | exact Or.inr rfl) (by first | exact Or.inl rfl | exact Or.inr rfl))) (tg_one (by decide)) (fun _ _ _ _ _ => ts_nil) (fun _ _ _ _ _ => (f_ix (f_var 12) f_int))) (nomark _))) (ss_one (s_ret f_bl)) ss_nil) (ss_cons (s_if (t_gc (t_val (f_callB (cr_any rfl) n_any T.n_any (a_cons (f_lc (fuel := 300) (t := (.one 12)) (own := [("row", 12)]) rfl sc.nd (j_list (f_var 5)) (blkOk_by (N := ["plain", "through", "double", "single", "deeds", "rows", "pairs", "lists", "shown", "down", "keeping", "some", "row"]) (sc := defScope s__law_alike_right) (by decide +kernel)) (fun _ _ _ _ _ => (pg_name sc.nd rfl (by first | exact Or.inl rfl | exact Or.inr rfl) (by first | exact Or.inl rfl | exact Or.inr rfl))) (tg_one (by decide)) (fun _ _ _ _ _ => ts_nil) (fun _ _ _ _ _ => (f_gc (f_methK T.f_Parts (okK_Parts_shows T) (hr.mono (by decide)) tk0 T.me_Parts_shows (by rw [T.e_Parts]; decide) (f_new T.mk_Parts (ok_Parts___init__ T) (hr.mono (by decide)) tk0 T.g_Parts (a_cons f_int (a_cons (f_ix (f_var 12) f_int) a_nil))) (a_cons (f_var 2) (a_cons (f_var 3) a_nil)) (k_one f_bl))))) a_nil)))) (ss_one (s_ret f_bl)) ss_nil) (ss_cons (s_set (i := 6) sc.nd (f_lst (a_cons (f_tup (a_cons (f_tup (a_cons f_non (a_cons f_non a_nil))) (a_cons (f_tup (a_cons f_non a_nil)) a_nil))) (a_cons (f_tup (a_cons (f_tup (a_cons f_int (a_cons f_int a_nil))) (a_cons (f_tup (a_cons f_int a_nil)) a_nil))) (a_cons (f_tup (a_cons (f_tup (a_cons f_int (a_cons f_int a_nil))) (a_cons (f_tup (a_cons f_int a_nil)) a_nil))) a_nil))))) (ss_cons (s_set (i := 7) sc.nd (f_lst (a_cons (f_var 6) (a_cons (f_rev (f_var 6)) (a_cons (f_slice (f_var 6) (p_some f_int) p_none) (a_cons (f_slice (f_var 6) p_none (p_some f_int)) (a_cons (f_op op_add3 o_add (f_var 6) (f_lst (a_cons (f_tup (a_cons (f_tup (a_cons f_int (a_cons f_non a_nil))) (a_cons (f_tup (a_cons f_int a_nil)) a_nil))) a_nil))) (a_cons (f_op op_add3 o_add (f_var 6) (f_lst (a_cons (f_tup (a_cons (f_tup (a_cons f_int (a_cons f_int a_nil))) (a_cons (f_tup (a_cons f_int a_nil)) a_nil))) a_nil))) a_nil)))))))) (ss_cons (s_expr (f_app (f_var 7) (a_cons (f_op op_add3 o_add (f_var 6) (f_lst (a_cons (f_tup (a_cons (f_tup (a_cons f_int (a_cons f_int a_nil))) (a_cons (f_tup (a_cons f_int a_nil)) a_nil))) a_nil))) a_nil))) (ss_cons (s_setLcq (fuel := 300) (t := (.one 11)) (i := 8) (own := [("some", 11)]) rfl sc.nd (j_list (f_var 7)) (blkOk_by (N := ["plain", "through", "double", "single", "deeds", "rows", "pairs", "lists", "shown", "down", "keeping", "some", "row"]) (sc := defScope s__law_alike_right) (by decide +kernel)) (fun _ _ _ _ _ => (pg_name sc.nd rfl (by first | exact Or.inl rfl | exact Or.inr rfl) (by first | exact Or.inl rfl | exact Or.inr rfl))) (tg_one (by decide)) (fun _ _ _ _ _ => ts_nil) (fun _ _ _ _ _ => (f_gc (f_methK T.f_Alike (okK_Alike_shows T) (hr.mono (by decide)) tk0 T.me_Alike_shows (by rw [T.e_Alike]; decide) (f_new T.mk_Alike (ok_Alike___init__ T) (hr.mono (by decide)) tk0 T.g_Alike (a_cons (f_var 11) a_nil)) (a_cons (f_var 2) (a_cons (f_var 3) a_nil)) (k_one f_bl))))) (ss_cons (s_if (PW.pt (w_or (t_cmp (op_neD hu) o_ne (f_var 8) (f_lst (a_cons f_bl (a_cons f_bl (a_cons f_bl (a_cons f_bl (a_cons f_bl (a_cons f_bl (a_cons f_bl a_nil)))))))) (nomark _)) (w_or1 (t_gc (t_val (f_gc (f_meth T.f_Alike (okR_Alike_shows T) (hr.mono (by decide)) tk T.me_Alike_shows (by rw [T.e_Alike]; decide) (f_new T.mk_Alike (ok_Alike___init__ T) (hr.mono (by decide)) tk T.g_Alike (a_cons (f_var 6) a_nil)) (a_cons (f_var 2) (a_cons (f_var 3) a_nil))))))))) (ss_one (s_ret f_bl)) ss_nil) (ss_cons (s_set (i := 9) sc.nd (f_cmeth (c := 0) T.cr_Stack T.cm_Stack_of (ok_Stack_of T) (hr.mono (by decide)) tk T.g_Stack (a_cons (f_tup (a_cons f_str (a_cons f_str (a_cons f_str (a_cons f_non a_nil))))) (a_cons (f_var 0) a_nil)))) (ss_cons (s_if (PW.pt (w_or (t_gc (t_cmp op_notN o_notN (f_gc (f_call (okR_soonest T) (hr.mono (by decide)) tk T.d_soonest.mg T.d_soonest.kp (a_cons (f_var 9) (a_cons (f_var 3) a_nil)))) f_non (nomark _))) (w_or (t_not (t_gc (t_val (f_gc (f_call (okR_is_flat T) (hr.mono (by decide)) tk T.d_is_flat.mg T.d_is_flat.kp (a_cons (f_var 9) a_nil)))))) (w_or1 (t_gc (t_cmp (op_neD hu) o_ne (f_gc (f_fld (i := 0) T.f_Fewest (f_call (okR_fewest T) (hr.mono (by decide)) tk T.d_fewest.mg T.d_fewest.kp (a_cons (f_var 9) a_nil)) (by rw [T.e_Fewest]; rfl))) (f_tup (a_cons f_int a_nil)) (nomark _))))))) (ss_one (s_ret f_bl)) ss_nil) (ss_cons (s_set (i := 10) sc.nd (f_cmeth (c := 0) T.cr_Stack T.cm_Stack_of (ok_Stack_of T) (hr.mono (by decide)) tk T.g_Stack (a_cons (f_tup (a_cons f_str (a_cons f_str (a_cons f_str (a_cons f_non a_nil))))) (a_cons (f_var 0) a_nil)))) (ss_one (s_ret (f_and (f_cmp (op_eqD hu) o_eq (f_gc (f_call (okR_soonest T) (hr.mono (by decide)) tk T.d_soonest.mg T.d_soonest.kp (a_cons (f_var 10) (a_cons (f_var 3) a_nil)))) f_int (nomark _)) (f_one (f_cmp (op_eqD hu) o_eq (f_gc (f_callK (okK_soonest T) (hr.mono (by decide)) tk T.d_soonest.mg T.d_soonest.kp (a_cons (f_var 10) (a_cons (f_var 3) a_nil)) (k_one f_bl))) f_int (nomark _)))))))))))))))))))))))
theorem sc_fewest_size : FnScope ["stack", "shared"] ["stack", "shared"] (defScope s_fewest_size) := ⟨rfl, rfl, rfl, by decide +kernel, rfl, by decide +kernel, by decide +kernel⟩
def b_fewest_size : Sl → Sto → RS := (SRet (FB fnLen (ACons (FGc (FFld 3 0 (FKw 1 1 m_fewest (ACons (FVar 0) ANil) (ACons (FVar 1) ANil)))) ANil)))
def m_fewest_size : DN := mFn 2 2 b_fewest_size
theorem okF_fewest_size {A : Ad} (T : Tx P w K mg A) : ∃ fd, FunD K "fewest_size" "fewest_size" (defArgs s_fewest_size) (defBody s_fewest_size) (defScope s_fewest_size) [] [("shared", .bl true)] A.a_fewest_size fd ∧ FnOk P w K mg base (L2.CX P w) 16 A.a_fewest_size fd ["stack", "shared"] (spF ⟨K, A.cl⟩ m_fewest_size) := by
  obtain ⟨fd, F⟩ := T.d_fewest_size.ex
  have sc := sc_fewest_size
  refine ⟨fd, F, fn_okK (x := "fewest_size") (qual := "fewest_size") (st := s_fewest_size) (N := ["stack", "shared"]) (ps := ["stack", "shared"]) (k := 15) F sc (cl := A.cl) (B := b_fewest_size) fun cdv A2 outer s H E hr tk => ?_⟩
  have hu := hr.units
  unfold b_fewest_size
  exact (ss_one (s_ret (f_callB call_len2 n_len T.n_len (a_cons (f_gc (f_fld (i := 0) T.f_Fewest (f_callK (okK_fewest T) (hr.mono (by decide)) tk T.d_fewest.mg T.d_fewest.kp (a_cons (f_var 0) a_nil) (k_one (f_var 1))) (by rw [T.e_Fewest]; rfl))) a_nil))))
theorem okR_fewest_size {A : Ad} (T : Tx P w K mg A) : FnR P w K mg base (L2.CX P w) 16 A.a_fewest_size (spF ⟨K, A.cl⟩ (mKwD 2 (.bl true) m_fewest_size)) := by
  obtain ⟨fd, F, G⟩ := okF_fewest_size (base := base) T
  exact fnr_kwd (ps := ["stack", "shared"]) (v := .bl true) G (F.binds0 1 (by simp) rfl fun _ _ _ _ _ _ us ks hl h1 => match us, hl, ks, h1 with | [_], _, [_], _ => ⟨_, _, _, _, _, _, rfl, rfl, rfl⟩) (fun _ _ => rfl)
theorem okK_fewest_size {A : Ad} (T : Tx P w K mg A) : FnRK P w K mg base (L2.CX P w) 16 A.a_fewest_size 1 ["shared"] (spF ⟨K, A.cl⟩ m_fewest_size) := by
  obtain ⟨fd, F, G⟩ := okF_fewest_size (base := base) T
  exact fnrk_of G (kbn_of F 1 ["shared"] (by simp) fun _ _ _ _ _ _ us ws hl h1 => match us, hl, ws, h1 with | [_], _, [_], _ => by kernel_rfl)
theorem sc_is_choice : FnScope ["thing", "count", "at"] ["thing", "count"] (defScope s_is_choice) := ⟨rfl, rfl, rfl, by decide +kernel, rfl, by decide +kernel, by decide +kernel⟩
def b_is_choice : Sl → Sto → RS := (SSeq (SIf (TOr (TNot (TB (FIs .tup (FVar 0)))) (TNot (TB (FB fnAll (ACons (FLc 300 (ITu (FVar 0)) (.one 2) TYes (FB m_is_integer (ACons (FVar 2) ANil)) [2]) ANil))))) (SRet (FC (.bl false))) SNx) (SRet (F2 (opInDp false) (FVar 0) (FB m_all_choices (ACons (FVar 1) ANil)))))
def m_is_choice : DN := mFn 2 3 b_is_choice
theorem ok_is_choice {A : Ad} (T : Tx P w K mg A) : FnR P w K mg base (L2.CX P w) 2 A.a_is_choice (spF ⟨K, A.cl⟩ m_is_choice) := by
  obtain ⟨fd, F, hm⟩ := T.d_is_choice.ex
  have sc := sc_is_choice
  refine fnr_of (fn_ok F sc (cl := A.cl) (B := b_is_choice) fun cdv A2 outer s H E hr tk => ?_) (F.binds (ps := ["thing", "count"]) fun _ _ _ _ _ _ us hl => match us, hl with | [_, _], _ => by kernel_rfl)
  have hu := hr.units
  unfold b_is_choice
  exact (ss_cons (s_if (PW.pt (w_or (t_not (t_val (f_is T.kC T.k_tuple T.n_isinstance T.n_tuple (f_var 0)))) (w_or1 (t_not (t_val (f_callB (cr_all rfl) n_all T.n_all (a_cons (f_lc (fuel := 300) (t := (.one 2)) (own := [("at", 2)]) rfl sc.nd (i_tup (f_var 0)) (blkOk_by (N := ["thing", "count", "at"]) (sc := defScope s_is_choice) (by decide +kernel)) (fun _ _ _ _ _ => (pg_name sc.nd rfl (by first | exact Or.inl rfl | exact Or.inr rfl) (by first | exact Or.inl rfl | exact Or.inr rfl))) (tg_one (by decide)) (fun _ _ _ _ _ => ts_nil) (fun _ _ _ _ _ => (f_call (ok_is_integer T) (hr.mono (by decide)) tk0 T.d_is_integer.mg T.d_is_integer.kp (a_cons (f_var 2) a_nil)))) a_nil))))))) (ss_one (s_ret f_bl)) ss_nil) (ss_one (s_ret (f_cmp (op_inA (hu65 hr)) (o_inA false) (f_var 0) (f_call (ok_all_choices T) (hr.mono (by decide)) tk T.d_all_choices.mg T.d_all_choices.kp (a_cons (f_var 1) a_nil)) (by rfl)))))
end
end K6
set_option Elab.async false
set_option autoImplicit false
set_option linter.all false
set_option maxRecDepth 100000
set_option maxHeartbeats 4000000
namespace K6
open PySem L2 Mi
section
variable {P : Program} {w : World} {K : PySem.W.Frag} {mg : Str → Option Value} {base : Heap}
theorem sc_are_fewer : FnScope ["parts", "kept", "count", "fewer", "choice"] ["parts", "kept", "count"] (defScope s_are_fewer) := ⟨rfl, rfl, rfl, by decide +kernel, rfl, by decide +kernel, by decide +kernel⟩
def b_are_fewer : Sl → Sto → RS := (SSeq (SAsg (FLc 300 (ILs (FB m_all_choices (ACons (FVar 2) ANil))) (.one 4) (TB (F2 (cmpI (fun i j => decide (i < j))) (FB fnLen (ACons (FVar 4) ANil)) (FB fnLen (ACons (FVar 1) ANil)))) (FVar 4) [4]) (gN 3)) (SSeq (SIf (TB (F2 (opEqB true) (FB fnLenN (ACons (FVar 0) ANil)) (FB fnLen (ACons (FVar 3) ANil)))) (SRet (FC (.bl false))) SNx) (SRet (FB fnAll (ACons (FLockN 0 (FLc 300 (IKN (FVar 0)) (.one 4) TYes (FAnd (FB m_is_choice (ACons (FVar 4) (ACons (FVar 2) ANil))) (F2 (cmpI (fun i j => decide (i < j))) (FB fnLen (ACons (FVar 4) ANil)) (FB fnLen (ACons (FVar 1) ANil)))) [4])) ANil)))))
def m_are_fewer : DN := mFn 3 5 b_are_fewer
theorem ok_are_fewer {A : Ad} (T : Tx P w K mg A) : FnR P w K mg base (L2.CX P w) 3 A.a_are_fewer (spF ⟨K, A.cl⟩ m_are_fewer) := by
  obtain ⟨fd, F, hm⟩ := T.d_are_fewer.ex
  have sc := sc_are_fewer
  refine fnr_of (fn_ok F sc (cl := A.cl) (B := b_are_fewer) fun cdv A2 outer s H E hr tk => ?_) (F.binds (ps := ["parts", "kept", "count"]) fun _ _ _ _ _ _ us hl => match us, hl with | [_, _, _], _ => by kernel_rfl)
  have hu := hr.units
  unfold b_are_fewer
  exact (ss_cons (s_setLcq (fuel := 300) (t := (.one 4)) (i := 3) (own := [("choice", 4)]) rfl sc.nd (j_list (f_call (ok_all_choices T) (hr.mono (by decide)) tk T.d_all_choices.mg T.d_all_choices.kp (a_cons (f_var 2) a_nil))) (blkOk_by (N := ["parts", "kept", "count", "fewer", "choice"]) (sc := defScope s_are_fewer) (by decide +kernel)) (fun _ _ _ _ _ => (pg_name sc.nd rfl (by first | exact Or.inl rfl | exact Or.inr rfl) (by first | exact Or.inl rfl | exact Or.inr rfl))) (tg_one (by decide)) (fun _ _ _ _ _ => (ts_one (t_cmp op_lt (o_cmpI (fun i j => decide (i < j))) (f_callB call_len2 n_len T.n_len (a_cons (f_var 4) a_nil)) (f_callB call_len2 n_len T.n_len (a_cons (f_var 1) a_nil)) (nomark _)))) (fun _ _ _ _ _ => (f_var 4))) (ss_cons (s_if (t_cmp (op_neD hu) o_ne (f_callB (call_lenN T.pw []) (n_lenN []) T.n_len (a_cons (f_var 0) a_nil)) (f_callB call_len2 n_len T.n_len (a_cons (f_var 3) a_nil)) (nomark _)) (ss_one (s_ret f_bl)) ss_nil) (ss_one (s_ret (f_callB (cr_all rfl) n_all T.n_all (a_cons (f_lockN (i := 0) (f_lc (fuel := 300) (t := (.one 4)) (own := [("choice", 4)]) rfl sc.nd (i_keysN T.pw (f_var 0)) (blkOk_by (N := ["parts", "kept", "count", "fewer", "choice"]) (sc := defScope s_are_fewer) (by decide +kernel)) (fun _ _ _ _ _ => (pg_name sc.nd rfl (by first | exact Or.inl rfl | exact Or.inr rfl) (by first | exact Or.inl rfl | exact Or.inr rfl))) (tg_one (by decide)) (fun _ _ _ _ _ => ts_nil) (fun _ _ _ _ _ => (f_and (f_call (ok_is_choice T) (hr.mono (by decide)) tk0 T.d_is_choice.mg T.d_is_choice.kp (a_cons (f_var 4) (a_cons (f_var 2) a_nil))) (f_one (f_cmp op_lt (o_cmpI (fun i j => decide (i < j))) (f_callB call_len2 n_len T.n_len (a_cons (f_var 4) a_nil)) (f_callB call_len2 n_len T.n_len (a_cons (f_var 1) a_nil)) (nomark _))))))) a_nil))))))
theorem sc_is_parted : FnScope ["stack", "choice", "told", "shared", "key", "deeds"] ["stack", "choice", "told", "shared"] (defScope s_is_parted) := ⟨rfl, rfl, rfl, by decide +kernel, rfl, by decide +kernel, by decide +kernel⟩
def b_is_parted : Sl → Sto → RS := (SSeq (SIf (TOr (TNot (TB (FIs .tup (FVar 2)))) (TB (F2 (opEqB true) (FB fnLen (ACons (FVar 2) ANil)) (FC (.int 2))))) (SRet (FC (.bl false))) SNx) (SSeq (SAsg (FVar 2) (gT 2 [(gN 4), (gN 5)])) (SRet (FGc (FMethK 2 3 1 m_Parts_shows (FB (mNew 2 m_Parts___init__) (ACons (FVar 4) (ACons (FVar 5) ANil))) (ACons (FVar 0) (ACons (FMeth 0 m_Stack_chosen (FVar 0) (ACons (FVar 1) ANil)) ANil)) (ACons (FVar 3) ANil))))))
def m_is_parted : DN := mFn 4 6 b_is_parted
theorem ok_is_parted {A : Ad} (T : Tx P w K mg A) : FnR P w K mg base (L2.CX P w) 15 A.a_is_parted (spF ⟨K, A.cl⟩ m_is_parted) := by
  obtain ⟨fd, F, hm⟩ := T.d_is_parted.ex
  have sc := sc_is_parted
  refine fnr_of (fn_ok F sc (cl := A.cl) (B := b_is_parted) fun cdv A2 outer s H E hr tk => ?_) (F.binds (ps := ["stack", "choice", "told", "shared"]) fun _ _ _ _ _ _ us hl => match us, hl with | [_, _, _, _], _ => by kernel_rfl)
  have hu := hr.units
  unfold b_is_parted
  exact (ss_cons (s_if (PW.pt (w_or (t_not (t_val (f_is T.kC T.k_tuple T.n_isinstance T.n_tuple (f_var 2)))) (w_or1 (t_cmp (op_neD hu) o_ne (f_callB call_len2 n_len T.n_len (a_cons (f_var 2) a_nil)) f_int (nomark _))))) (ss_one (s_ret f_bl)) ss_nil) (ss_cons (s_asg (f_var 2) (g_tup rfl (gs_cons (g_name (i := 4) sc.nd) (gs_cons (g_name (i := 5) sc.nd) gs_nil))) nx_tup) (ss_one (s_ret (f_gc (f_methK T.f_Parts (okK_Parts_shows T) (hr.mono (by decide)) tk T.me_Parts_shows (by rw [T.e_Parts]; decide) (f_new T.mk_Parts (ok_Parts___init__ T) (hr.mono (by decide)) tk T.g_Parts (a_cons (f_var 4) (a_cons (f_var 5) a_nil))) (a_cons (f_var 0) (a_cons (f_meth T.f_Stack (ok_Stack_chosen T) (hr.mono (by decide)) tk T.me_Stack_chosen (by rw [T.e_Stack]; decide) (f_var 0) (a_cons (f_var 1) a_nil)) a_nil)) (k_one (f_var 3))))))))
theorem sc_Fewest_shows : FnScope ["self", "stack", "shared", "count", "choice", "told"] ["self", "stack", "shared"] (defScope s_Fewest_shows) := ⟨rfl, rfl, rfl, by decide +kernel, rfl, by decide +kernel, by decide +kernel⟩
def b_Fewest_shows : Sl → Sto → RS := (SSeq (SExp (FB m_check_stack (ACons (FVar 1) ANil))) (SSeq (SAsg (FB fnLen (ACons (FProp 0 m_Stack_layers (FVar 1)) ANil)) (gN 3)) (SSeq (SIf (TOr (TNot (TB (FB m_is_choice (ACons (FGc (FFld 3 0 (FVar 0))) (ACons (FVar 3) ANil))))) (TNot (TB (FB m_are_fewer (ACons (FFld 3 2 (FVar 0)) (ACons (FGc (FFld 3 0 (FVar 0))) (ACons (FVar 3) ANil))))))) (SRet (FC (.bl false))) SNx) (SSeq (SIf (TNot (TB (FGc (FMethK 1 3 1 m_Alike_shows (FB (mNew 1 m_Alike___init__) (ACons (FFld 3 1 (FVar 0)) ANil)) (ACons (FVar 1) (ACons (FMeth 0 m_Stack_chosen (FVar 1) (ACons (FGc (FFld 3 0 (FVar 0))) ANil)) ANil)) (ACons (FVar 2) ANil))))) (SRet (FC (.bl false))) SNx) (SRet (FB fnAll (ACons (FLc 300 (IIL (FFld 3 2 (FVar 0))) (.two 4 5) TYes (FB m_is_parted (ACons (FVar 1) (ACons (FVar 4) (ACons (FVar 5) (ACons (FVar 2) ANil))))) [4, 5]) ANil)))))))
def m_Fewest_shows : DN := mFn 3 6 b_Fewest_shows
theorem okF_Fewest_shows {A : Ad} (T : Tx P w K mg A) : ∃ fd, FunD K "shows" "Fewest.shows" (defArgs s_Fewest_shows) (defBody s_Fewest_shows) (defScope s_Fewest_shows) [] [("shared", .bl true)] A.a_Fewest_shows fd ∧ FnOk P w K mg base (L2.CX P w) 16 A.a_Fewest_shows fd ["self", "stack", "shared"] (spF ⟨K, A.cl⟩ m_Fewest_shows) := by
  obtain ⟨fd, F⟩ := T.d_Fewest_shows.ex
  have sc := sc_Fewest_shows
  refine ⟨fd, F, fn_okK (x := "shows") (qual := "Fewest.shows") (st := s_Fewest_shows) (N := ["self", "stack", "shared", "count", "choice", "told"]) (ps := ["self", "stack", "shared"]) (k := 15) F sc (cl := A.cl) (B := b_Fewest_shows) fun cdv A2 outer s H E hr tk => ?_⟩
  have hu := hr.units
  unfold b_Fewest_shows
  exact (ss_cons (s_expr (f_call (ok_check_stack T) (hr.mono (by decide)) tk T.d_check_stack.mg T.d_check_stack.kp (a_cons (f_var 1) a_nil))) (ss_cons (s_set (i := 3) sc.nd (f_callB call_len2 n_len T.n_len (a_cons (Exists.elim (ok_Stack_layers T) fun _ h => f_propM T.f_Stack T.pr_Stack_layers h.1 (hr.mono (by decide)) h.2 (f_var 1)) a_nil))) (ss_cons (s_if (PW.pt (w_or (t_not (t_val (f_call (ok_is_choice T) (hr.mono (by decide)) tk T.d_is_choice.mg T.d_is_choice.kp (a_cons (f_gc (f_fld (i := 0) T.f_Fewest (f_var 0) (by rw [T.e_Fewest]; rfl))) (a_cons (f_var 3) a_nil))))) (w_or1 (t_not (t_val (f_call (ok_are_fewer T) (hr.mono (by decide)) tk T.d_are_fewer.mg T.d_are_fewer.kp (a_cons (f_fld (i := 2) T.f_Fewest (f_var 0) (by rw [T.e_Fewest]; rfl)) (a_cons (f_gc (f_fld (i := 0) T.f_Fewest (f_var 0) (by rw [T.e_Fewest]; rfl))) (a_cons (f_var 3) a_nil))))))))) (ss_one (s_ret f_bl)) ss_nil) (ss_cons (s_if (t_not (t_val (f_gc (f_methK T.f_Alike (okK_Alike_shows T) (hr.mono (by decide)) tk T.me_Alike_shows (by rw [T.e_Alike]; decide) (f_new T.mk_Alike (ok_Alike___init__ T) (hr.mono (by decide)) tk T.g_Alike (a_cons (f_fld (i := 1) T.f_Fewest (f_var 0) (by rw [T.e_Fewest]; rfl)) a_nil)) (a_cons (f_var 1) (a_cons (f_meth T.f_Stack (ok_Stack_chosen T) (hr.mono (by decide)) tk T.me_Stack_chosen (by rw [T.e_Stack]; decide) (f_var 1) (a_cons (f_gc (f_fld (i := 0) T.f_Fewest (f_var 0) (by rw [T.e_Fewest]; rfl))) a_nil)) a_nil)) (k_one (f_var 2)))))) (ss_one (s_ret f_bl)) ss_nil) (ss_one (s_ret (f_callB (cr_all rfl) n_all T.n_all (a_cons (f_lc (fuel := 300) (t := (.two 4 5)) (own := [("choice", 4), ("told", 5)]) rfl sc.nd (i_itemsL T.pw (f_fld (i := 2) T.f_Fewest (f_var 0) (by rw [T.e_Fewest]; rfl))) (blkOk_by (N := ["self", "stack", "shared", "count", "choice", "told"]) (sc := defScope s_Fewest_shows) (by decide +kernel)) (fun _ _ _ _ _ => (pg_tup rfl (pgs_cons (pg_name sc.nd rfl (by first | exact Or.inl rfl | exact Or.inr rfl) (by first | exact Or.inl rfl | exact Or.inr rfl)) (pgs_cons (pg_name sc.nd rfl (by first | exact Or.inl rfl | exact Or.inr rfl) (by first | exact Or.inl rfl | exact Or.inr rfl)) pgs_nil rfl) rfl) rfl rfl)) (tg_two (by decide) (by decide)) (fun _ _ _ _ _ => ts_nil) (fun _ _ _ _ _ => (f_call (ok_is_parted T) (hr.mono (by decide)) tk0 T.d_is_parted.mg T.d_is_parted.kp (a_cons (f_var 1) (a_cons (f_var 4) (a_cons (f_var 5) (a_cons (f_var 2) a_nil))))))) a_nil))))))))
theorem okR_Fewest_shows {A : Ad} (T : Tx P w K mg A) : FnR P w K mg base (L2.CX P w) 16 A.a_Fewest_shows (spF ⟨K, A.cl⟩ (mKwD 3 (.bl true) m_Fewest_shows)) := by
  obtain ⟨fd, F, G⟩ := okF_Fewest_shows (base := base) T
  exact fnr_kwd (ps := ["self", "stack", "shared"]) (v := .bl true) G (F.binds0 2 (by simp) rfl fun _ _ _ _ _ _ us ks hl h1 => match us, hl, ks, h1 with | [_, _], _, [_], _ => ⟨_, _, _, _, _, _, rfl, rfl, rfl⟩) (fun _ _ => rfl)
theorem okK_Fewest_shows {A : Ad} (T : Tx P w K mg A) : FnRK P w K mg base (L2.CX P w) 16 A.a_Fewest_shows 2 ["shared"] (spF ⟨K, A.cl⟩ m_Fewest_shows) := by
  obtain ⟨fd, F, G⟩ := okF_Fewest_shows (base := base) T
  exact fnrk_of G (kbn_of F 2 ["shared"] (by simp) fun _ _ _ _ _ _ us ws hl h1 => match us, hl, ws, h1 with | [_, _], _, [_], _ => by kernel_rfl)
theorem sc_Stack___eq__ : FnScope ["self", "other"] ["self", "other"] (defScope s_Stack___eq__) := ⟨rfl, rfl, rfl, by decide +kernel, rfl, by decide +kernel, by decide +kernel⟩
def b_Stack___eq__ : Sl → Sto → RS := (SRet (FAnd (FIsC 4 0 (FVar 1)) (FAnd (F2 (opEqB false) (FFld 0 0 (FVar 0)) (FFld 0 0 (FVar 1))) (F2 (opEqX false) (FFld 0 1 (FVar 0)) (FFld 0 1 (FVar 1))))))
def m_Stack___eq__ : DN := mFn 2 2 b_Stack___eq__
theorem ok_Stack___eq__ {A : Ad} (T : Tx P w K mg A) : FnR P w K mg base (L2.CX P w) 1 A.a_Stack___eq__ (spF ⟨K, A.cl⟩ m_Stack___eq__) := by
  obtain ⟨fd, F⟩ := T.d_Stack___eq__.ex
  have sc := sc_Stack___eq__
  refine fnr_of (fn_ok F sc (cl := A.cl) (B := b_Stack___eq__) fun cdv A2 outer s H E hr tk => ?_) (F.binds (ps := ["self", "other"]) fun _ _ _ _ _ _ us hl => match us, hl with | [_, _], _ => by kernel_rfl)
  have hu := hr.units
  unfold b_Stack___eq__
  exact (ss_one (s_ret (f_and (f_isC T.kC T.i_Stack T.n_isinstance T.g_Stack (f_var 1)) (f_and (f_cmp (op_eqD hu) o_eq (f_fld (i := 0) T.f_Stack (f_var 0) (by rw [T.e_Stack]; rfl)) (f_fld (i := 0) T.f_Stack (f_var 1) (by rw [T.e_Stack]; rfl)) (nomark _)) (f_one (f_cmp (op_eqX (hu65 hr)) o_eqX (f_fld (i := 1) T.f_Stack (f_var 0) (by rw [T.e_Stack]; rfl)) (f_fld (i := 1) T.f_Stack (f_var 1) (by rw [T.e_Stack]; rfl)) (nomark _)))))))
theorem sc__law_fewest_right : FnScope ["plain", "through", "down", "three", "parts", "pairs", "hook"] [] (defScope s__law_fewest_right) := ⟨rfl, rfl, rfl, by decide +kernel, rfl, by decide +kernel, by decide +kernel⟩
def b__law_fewest_right_0 : Sl → Sto → RS := (SAsg (FTup (ACons (FTup (ACons (FC (.str "here")) (ACons (FC (.str "here")) (ACons (FC (.str "look")) (ACons (FC .non) ANil))))) (ACons (FTup (ACons (FC (.str "both")) (ACons (FC (.str "both")) (ACons (FC (.str "look")) (ACons (FC .non) ANil))))) ANil))) (gT 2 [(gN 0), (gN 1)]))
def b__law_fewest_right_1 : Sl → Sto → RS := (SAsg (FTup (ACons (FC (.str "down")) (ACons (FC (.str "down")) (ACons (FC (.str "look")) (ACons (FC .non) ANil))))) (gN 2))
def b__law_fewest_right_2 : Sl → Sto → RS := (SAsg (FB (fun ds S => m_Stack_of (.cls 0 :: ds) S) (ACons (FVar 2) (ACons (FVar 1) (ACons (FVar 0) ANil)))) (gN 3))
def b__law_fewest_right_3 : Sl → Sto → RS := (SIf (TOr (TGc (TB (F2 (opEqB true) (FGc (FB (mKwD 2 (.bl true) m_fewest_size) (ACons (FVar 3) ANil))) (FC (.int 2))))) (TOr (TGc (TB (F2 (opEqB true) (FGc (FFld 3 0 (FB (mKwD 2 (.bl true) m_fewest) (ACons (FVar 3) ANil)))) (FTup (ACons (FC (.int 1)) (ACons (FC (.int 2)) ANil)))))) (TGc (TB (F2 (opEqB true) (FGc (FKw 1 1 m_fewest_size (ACons (FVar 3) ANil) (ACons (FC (.bl false)) ANil))) (FC (.int 1))))))) (SRet (FC (.bl false))) SNx)
def b__law_fewest_right_4 : Sl → Sto → RS := (SIf (TOr (TGc (TB (F2 (opEqB true) (FGc (FFld 3 0 (FKw 1 1 m_fewest (ACons (FVar 3) ANil) (ACons (FC (.bl false)) ANil)))) (FTup (ACons (FC (.int 2)) ANil))))) (TGc (TB (F2 (opEqB true) (FB fnListN (ACons (FFld 3 2 (FB (mKwD 2 (.bl true) m_fewest) (ACons (FVar 3) ANil))) ANil)) (FLst (ACons (FTup (ACons (FC (.int 2)) ANil)) ANil)))))) (SRet (FC (.bl false))) SNx)
def b__law_fewest_right_5 : Sl → Sto → RS := (SIf (TGc (TB (F2 (opInDp true) (FB fnSortTI (ACons (FGc (FFld 3 0 (FB (mKwD 2 (.bl true) m_fewest) (ACons (FB (fun ds S => m_Stack_of (.cls 0 :: ds) S) (ACons (FVar 1) (ACons (FVar 1) (ACons (FVar 0) ANil)))) ANil)))) ANil)) (FTup (ACons (FLst (ACons (FC (.int 0)) (ACons (FC (.int 2)) ANil))) (ACons (FLst (ACons (FC (.int 1)) (ACons (FC (.int 2)) ANil))) ANil)))))) (SRet (FC (.bl false))) SNx)
def b__law_fewest_right_6 : Sl → Sto → RS := (SPar 4 5 (ACons (FDispN [((FTup (ACons (FC (.int 2)) ANil)), (FTup (ACons (FC (.int 0)) (ACons (FTup (ACons (FTup (ACons (FC (.str "write")) (ACons (FC (.int 1)) ANil))) (ACons (FTup (ACons (FC (.str "beneath")) (ACons (FC (.int 0)) ANil))) (ACons (FTup (ACons (FC (.str "ask")) ANil)) ANil)))) ANil))))]) (ACons (FFld 3 1 (FB (mKwD 2 (.bl true) m_fewest) (ACons (FVar 3) ANil))) ANil)))
def b__law_fewest_right_7 : Sl → Sto → RS := (SIf (TOr (TNot (TGc (TB (FGc (FMeth 3 (mKwD 3 (.bl true) m_Fewest_shows) (FB (mNew 3 m_Fewest___init__) (ACons (FTup (ACons (FC (.int 1)) (ACons (FC (.int 2)) ANil))) (ACons (FVar 5) (ACons (FVar 4) ANil)))) (ACons (FVar 3) ANil)))))) (TGc (TB (FGc (FMeth 3 (mKwD 3 (.bl true) m_Fewest_shows) (FB (mNew 3 m_Fewest___init__) (ACons (FTup (ACons (FC (.int 1)) (ACons (FC (.int 2)) ANil))) (ACons (FVar 5) (ACons (fun _ S => newDct S) ANil)))) (ACons (FVar 3) ANil)))))) (SRet (FC (.bl false))) SNx)
def b__law_fewest_right_8 : Sl → Sto → RS := (SIf (TOr (TGc (TB (FGc (FMeth 3 (mKwD 3 (.bl true) m_Fewest_shows) (FB (mNew 3 m_Fewest___init__) (ACons (FTup (ACons (FC (.int 0)) (ACons (FC (.int 2)) ANil))) (ACons (FVar 5) (ACons (FVar 4) ANil)))) (ACons (FVar 3) ANil))))) (TGc (TB (FGc (FMeth 3 (mKwD 3 (.bl true) m_Fewest_shows) (FB (mNew 3 m_Fewest___init__) (ACons (FTup (ACons (FC (.int 0)) (ACons (FC (.int 1)) ANil))) (ACons (FVar 5) (ACons (fun _ S => newDct S) ANil)))) (ACons (FVar 3) ANil)))))) (SRet (FC (.bl false))) SNx)
def b__law_fewest_right_9 : Sl → Sto → RS := (SAsg (FB (fun ds S => m_Stack_of (.cls 0 :: ds) S) (ACons (FTup (ACons (FC (.str "here")) (ACons (FC (.str "here")) (ACons (FC (.str "look")) (ACons (FTup (ACons (FC (.str "told")) (ACons (FC (.int 1)) ANil))) ANil))))) (ACons (FTup (ACons (FC (.str "here")) (ACons (FC (.str "here")) (ACons (FC (.str "look")) (ACons (FTup (ACons (FC (.str "told")) (ACons (FC (.int 1)) ANil))) ANil))))) ANil))) (gN 6))
def b__law_fewest_right_10 : Sl → Sto → RS := (SIf (TOr (TGc (TB (F2 (opEqB true) (FGc (FB (mKwD 2 (.bl true) m_fewest_size) (ACons (FVar 6) ANil))) (FC (.int 2))))) (TGc (TB (F2 (opEqB true) (FGc (FB (mKwD 3 (.bl true) m_soonest) (ACons (FVar 6) (ACons (FB (fun ds S => m_Stack_of (.cls 0 :: ds) S) (ACons (FTup (ACons (FC (.str "here")) (ACons (FC (.str "here")) (ACons (FC (.str "look")) (ACons (FTup (ACons (FC (.str "told")) (ACons (FC (.int 1)) ANil))) ANil))))) ANil)) ANil)))) (FC (.int 2)))))) (SRet (FC (.bl false))) SNx)
def b__law_fewest_right_11 : Sl → Sto → RS := (SRet (FAnd (FOwnEq 0 m_Stack___eq__ (FB m_flat (ACons (FB (fun ds S => m_Stack_plain (.cls 0 :: ds) S) (ACons (FDisp1 (FC (.int 1)) (FC (.int 2))) ANil)) ANil)) (FB (fun ds S => m_Stack_plain (.cls 0 :: ds) S) (ACons (FDisp1 (FC (.int 1)) (FC (.int 2))) ANil))) (FGc (FB (mKwD 2 (.bl true) m_is_flat) (ACons (FB (fun ds S => m_Stack_plain (.cls 0 :: ds) S) (ACons (FDisp1 (FC (.int 1)) (FC (.int 2))) ANil)) ANil)))))
def b__law_fewest_right : Sl → Sto → RS := (SSeq b__law_fewest_right_0 (SSeq b__law_fewest_right_1 (SSeq b__law_fewest_right_2 (SSeq b__law_fewest_right_3 (SSeq b__law_fewest_right_4 (SSeq b__law_fewest_right_5 (SSeq b__law_fewest_right_6 (SSeq b__law_fewest_right_7 (SSeq b__law_fewest_right_8 (SSeq b__law_fewest_right_9 (SSeq b__law_fewest_right_10 b__law_fewest_right_11)))))))))))
def m__law_fewest_right : DN := mFn 0 7 b__law_fewest_right
theorem ok__law_fewest_right {A : Ad} (T : Tx P w K mg A) : FnR P w K mg base (L2.CX P w) 17 A.a__law_fewest_right (spF ⟨K, A.cl⟩ m__law_fewest_right) := by
  obtain ⟨fd, F, hm⟩ := T.d__law_fewest_right.ex
  have sc := sc__law_fewest_right
  refine fnr_of (fn_ok F sc (cl := A.cl) (B := b__law_fewest_right) fun cdv A2 outer s H E hr tk => ?_) (F.binds (ps := []) fun _ _ _ _ _ _ us hl => match us, hl with | [], _ => by kernel_rfl)
  have hu := hr.units
  unfold b__law_fewest_right b__law_fewest_right_0 b__law_fewest_right_1 b__law_fewest_right_2 b__law_fewest_right_3 b__law_fewest_right_4 b__law_fewest_right_5 b__law_fewest_right_6 b__law_fewest_right_7 b__law_fewest_right_8 b__law_fewest_right_9 b__law_fewest_right_10 b__law_fewest_right_11
  exact (ss_cons (s_asg (f_tup (a_cons (f_tup (a_cons f_str (a_cons f_str (a_cons f_str (a_cons f_non a_nil))))) (a_cons (f_tup (a_cons f_str (a_cons f_str (a_cons f_str (a_cons f_non a_nil))))) a_nil))) (g_tup rfl (gs_cons (g_name (i := 0) sc.nd) (gs_cons (g_name (i := 1) sc.nd) gs_nil))) nx_tup) (ss_cons (s_set (i := 2) sc.nd (f_tup (a_cons f_str (a_cons f_str (a_cons f_str (a_cons f_non a_nil)))))) (ss_cons (s_set (i := 3) sc.nd (f_cmeth (c := 0) T.cr_Stack T.cm_Stack_of (ok_Stack_of T) (hr.mono (by decide)) tk T.g_Stack (a_cons (f_var 2) (a_cons (f_var 1) (a_cons (f_var 0) a_nil))))) (ss_cons (s_if (PW.pt (w_or (t_gc (t_cmp (op_neD hu) o_ne (f_gc (f_call (okR_fewest_size T) (hr.mono (by decide)) tk T.d_fewest_size.mg T.d_fewest_size.kp (a_cons (f_var 3) a_nil))) f_int (nomark _))) (w_or (t_gc (t_cmp (op_neD hu) o_ne (f_gc (f_fld (i := 0) T.f_Fewest (f_call (okR_fewest T) (hr.mono (by decide)) tk T.d_fewest.mg T.d_fewest.kp (a_cons (f_var 3) a_nil)) (by rw [T.e_Fewest]; rfl))) (f_tup (a_cons f_int (a_cons f_int a_nil))) (nomark _))) (w_or1 (t_gc (t_cmp (op_neD hu) o_ne (f_gc (f_callK (okK_fewest_size T) (hr.mono (by decide)) tk T.d_fewest_size.mg T.d_fewest_size.kp (a_cons (f_var 3) a_nil) (k_one f_bl))) f_int (nomark _))))))) (ss_one (s_ret f_bl)) ss_nil) (ss_cons (s_if (PW.pt (w_or (t_gc (t_cmp (op_neD hu) o_ne (f_gc (f_fld (i := 0) T.f_Fewest (f_callK (okK_fewest T) (hr.mono (by decide)) tk T.d_fewest.mg T.d_fewest.kp (a_cons (f_var 3) a_nil) (k_one f_bl)) (by rw [T.e_Fewest]; rfl))) (f_tup (a_cons f_int a_nil)) (nomark _))) (w_or1 (t_gc (t_cmp (op_neD hu) o_ne (f_callTy (call_listN T.pw rfl []) (n_listN []) T.n_list (a_cons (f_fld (i := 2) T.f_Fewest (f_call (okR_fewest T) (hr.mono (by decide)) tk T.d_fewest.mg T.d_fewest.kp (a_cons (f_var 3) a_nil)) (by rw [T.e_Fewest]; rfl)) a_nil)) (f_lst (a_cons (f_tup (a_cons f_int a_nil)) a_nil)) (nomark _)))))) (ss_one (s_ret f_bl)) ss_nil) (ss_cons (s_if (t_gc (t_cmp (op_notInA (hu65 hr)) (o_inA true) (f_callB call_sortTI n_sortTI T.n_sorted (a_cons (f_gc (f_fld (i := 0) T.f_Fewest (f_call (okR_fewest T) (hr.mono (by decide)) tk T.d_fewest.mg T.d_fewest.kp (a_cons (f_cmeth (c := 0) T.cr_Stack T.cm_Stack_of (ok_Stack_of T) (hr.mono (by decide)) tk T.g_Stack (a_cons (f_var 1) (a_cons (f_var 1) (a_cons (f_var 0) a_nil)))) a_nil)) (by rw [T.e_Fewest]; rfl))) a_nil)) (f_tup (a_cons (f_lst (a_cons f_int (a_cons f_int a_nil))) (a_cons (f_lst (a_cons f_int (a_cons f_int a_nil))) a_nil))) (by rfl))) (ss_one (s_ret f_bl)) ss_nil) (ss_cons (s_par rfl sc.nd (i := 4) (j := 5) (a_cons (f_dispN T.pw (hu65 hr) (pps_cons (f_tup (a_cons f_int a_nil)) (f_tup (a_cons f_int (a_cons (f_tup (a_cons (f_tup (a_cons f_str (a_cons f_int a_nil))) (a_cons (f_tup (a_cons f_str (a_cons f_int a_nil))) (a_cons (f_tup (a_cons f_str a_nil)) a_nil)))) a_nil))) pps_nil) (.cons .nil)) (a_cons (f_fld (i := 1) T.f_Fewest (f_call (okR_fewest T) (hr.mono (by decide)) tk T.d_fewest.mg T.d_fewest.kp (a_cons (f_var 3) a_nil)) (by rw [T.e_Fewest]; rfl)) a_nil)) rfl rfl (by decide) rfl rfl (ps_par rfl sc.nd rfl rfl (by decide) rfl rfl (a_cons (f_dispN T.pw (hu65 hr) (pps_cons (f_tup (a_cons f_int a_nil)) (f_tup (a_cons f_int (a_cons (f_tup (a_cons (f_tup (a_cons f_str (a_cons f_int a_nil))) (a_cons (f_tup (a_cons f_str (a_cons f_int a_nil))) (a_cons (f_tup (a_cons f_str a_nil)) a_nil)))) a_nil))) pps_nil) (.cons .nil)) (a_cons (f_fld (i := 1) T.f_Fewest (f_call (okR_fewest T) (hr.mono (by decide)) tk T.d_fewest.mg T.d_fewest.kp (a_cons (f_var 3) a_nil)) (by rw [T.e_Fewest]; rfl)) a_nil)) (by rfl))) (ss_cons (s_if (PW.pt (w_or (t_not (t_gc (t_val (f_gc (f_meth T.f_Fewest (okR_Fewest_shows T) (hr.mono (by decide)) tk T.me_Fewest_shows (by rw [T.e_Fewest]; decide) (f_new T.mk_Fewest (ok_Fewest___init__ T) (hr.mono (by decide)) tk T.g_Fewest (a_cons (f_tup (a_cons f_int (a_cons f_int a_nil))) (a_cons (f_var 5) (a_cons (f_var 4) a_nil)))) (a_cons (f_var 3) a_nil)))))) (w_or1 (t_gc (t_val (f_gc (f_meth T.f_Fewest (okR_Fewest_shows T) (hr.mono (by decide)) tk T.me_Fewest_shows (by rw [T.e_Fewest]; decide) (f_new T.mk_Fewest (ok_Fewest___init__ T) (hr.mono (by decide)) tk T.g_Fewest (a_cons (f_tup (a_cons f_int (a_cons f_int a_nil))) (a_cons (f_var 5) (a_cons f_dnew a_nil)))) (a_cons (f_var 3) a_nil)))))))) (ss_one (s_ret f_bl)) ss_nil) (ss_cons (s_if (PW.pt (w_or (t_gc (t_val (f_gc (f_meth T.f_Fewest (okR_Fewest_shows T) (hr.mono (by decide)) tk T.me_Fewest_shows (by rw [T.e_Fewest]; decide) (f_new T.mk_Fewest (ok_Fewest___init__ T) (hr.mono (by decide)) tk T.g_Fewest (a_cons (f_tup (a_cons f_int (a_cons f_int a_nil))) (a_cons (f_var 5) (a_cons (f_var 4) a_nil)))) (a_cons (f_var 3) a_nil))))) (w_or1 (t_gc (t_val (f_gc (f_meth T.f_Fewest (okR_Fewest_shows T) (hr.mono (by decide)) tk T.me_Fewest_shows (by rw [T.e_Fewest]; decide) (f_new T.mk_Fewest (ok_Fewest___init__ T) (hr.mono (by decide)) tk T.g_Fewest (a_cons (f_tup (a_cons f_int (a_cons f_int a_nil))) (a_cons (f_var 5) (a_cons f_dnew a_nil)))) (a_cons (f_var 3) a_nil)))))))) (ss_one (s_ret f_bl)) ss_nil) (ss_cons (s_set (i := 6) sc.nd (f_cmeth (c := 0) T.cr_Stack T.cm_Stack_of (ok_Stack_of T) (hr.mono (by decide)) tk T.g_Stack (a_cons (f_tup (a_cons f_str (a_cons f_str (a_cons f_str (a_cons (f_tup (a_cons f_str (a_cons f_int a_nil))) a_nil))))) (a_cons (f_tup (a_cons f_str (a_cons f_str (a_cons f_str (a_cons (f_tup (a_cons f_str (a_cons f_int a_nil))) a_nil))))) a_nil)))) (ss_cons (s_if (PW.pt (w_or (t_gc (t_cmp (op_neD hu) o_ne (f_gc (f_call (okR_fewest_size T) (hr.mono (by decide)) tk T.d_fewest_size.mg T.d_fewest_size.kp (a_cons (f_var 6) a_nil))) f_int (nomark _))) (w_or1 (t_gc (t_cmp (op_neD hu) o_ne (f_gc (f_call (okR_soonest T) (hr.mono (by decide)) tk T.d_soonest.mg T.d_soonest.kp (a_cons (f_var 6) (a_cons (f_cmeth (c := 0) T.cr_Stack T.cm_Stack_of (ok_Stack_of T) (hr.mono (by decide)) tk T.g_Stack (a_cons (f_tup (a_cons f_str (a_cons f_str (a_cons f_str (a_cons (f_tup (a_cons f_str (a_cons f_int a_nil))) a_nil))))) a_nil)) a_nil)))) f_int (nomark _)))))) (ss_one (s_ret f_bl)) ss_nil) (ss_one (s_ret (f_and (f_own_eq T.ow_Stack___eq__ (ok_Stack___eq__ T) (hr.mono (by decide)) tk (f_call (ok_flat T) (hr.mono (by decide)) tk T.d_flat.mg T.d_flat.kp (a_cons (f_cmeth (c := 0) T.cr_Stack T.cm_Stack_plain (ok_Stack_plain T) (hr.mono (by decide)) tk T.g_Stack (a_cons (f_disp1 f_int f_int) a_nil)) a_nil)) (f_cmeth (c := 0) T.cr_Stack T.cm_Stack_plain (ok_Stack_plain T) (hr.mono (by decide)) tk T.g_Stack (a_cons (f_disp1 f_int f_int) a_nil))) (f_one (f_gc (f_call (okR_is_flat T) (hr.mono (by decide)) tk T.d_is_flat.mg T.d_is_flat.kp (a_cons (f_cmeth (c := 0) T.cr_Stack T.cm_Stack_plain (ok_Stack_plain T) (hr.mono (by decide)) tk T.g_Stack (a_cons (f_disp1 f_int f_int) a_nil)) a_nil))))))))))))))))))
theorem sc__law_all_right : FnScope ["script", "many"] ["script"] (defScope s__law_all_right) := ⟨rfl, rfl, rfl, by decide +kernel, rfl, by decide +kernel, by decide +kernel⟩
def b__law_all_right : Sl → Sto → RS := (SSeq (SAsg (FGc (F2 opAdd (FC (.int 1)) (F2 opMod (FB fnInt (ACons (FB fnSum (ACons (FSl (FVar 0) PN (PI_ (FC (.int 63)))) ANil)) ANil)) (FC (.int 9))))) (gN 1)) (SRet (FAnd (FGc (FB m__law_deeds_right (ACons (FVar 1) ANil))) (FAnd (FGc (FB m__law_alike_right ANil)) (FGc (FB m__law_fewest_right ANil))))))
def m__law_all_right : DN := mFn 1 2 b__law_all_right
theorem ok__law_all_right {A : Ad} (T : Tx P w K mg A) : FnR P w K mg base (L2.CX P w) 18 A.a__law_all_right (spF ⟨K, A.cl⟩ m__law_all_right) := by
  obtain ⟨fd, F, hm⟩ := T.d__law_all_right.ex
  have sc := sc__law_all_right
  refine fnr_of (fn_ok F sc (cl := A.cl) (B := b__law_all_right) fun cdv A2 outer s H E hr tk => ?_) (F.binds (ps := ["script"]) fun _ _ _ _ _ _ us hl => match us, hl with | [_], _ => by kernel_rfl)
  have hu := hr.units
  unfold b__law_all_right
  exact (ss_cons (s_set (i := 1) sc.nd (f_gc (f_op op_add3 o_add f_int (f_op op_modN o_mod (f_callTy call_int1 n_int T.n_int (a_cons (f_callB (cr_sum rfl) n_sum T.n_sum (a_cons (f_slice (f_var 0) p_none (p_some f_int)) a_nil)) a_nil)) f_int)))) (ss_one (s_ret (f_and (f_gc (f_call (ok__law_deeds_right T) (hr.mono (by decide)) tk T.d__law_deeds_right.mg T.d__law_deeds_right.kp (a_cons (f_var 1) a_nil))) (f_and (f_gc (f_call0 (ok__law_alike_right T) (hr.mono (by decide)) tk T.d__law_alike_right.mg T.d__law_alike_right.kp)) (f_one (f_gc (f_call0 (ok__law_fewest_right T) (hr.mono (by decide)) tk T.d__law_fewest_right.mg T.d__law_fewest_right.kp))))))))
theorem sc_law : FnScope ["script"] ["script"] (defScope s_law) := ⟨rfl, rfl, rfl, by decide +kernel, rfl, by decide +kernel, by decide +kernel⟩
def b_law : Sl → Sto → RS := (STry0 (SRet (FB m__law_all_right (ACons (FVar 0) ANil))))
def m_law : DN := mFn 1 1 b_law
theorem ok_law {A : Ad} (T : Tx P w K mg A) {fd : FuncData} (F : Fun K "law" "law" s_law A.a_law fd) : FnOk P w K mg base (L2.CX P w) 19 A.a_law fd ["script"] (spF ⟨K, A.cl⟩ m_law) := by
  have sc := sc_law
  refine fn_ok F sc (cl := A.cl) (B := b_law) fun cdv A2 outer s H E hr tk => ?_
  have hu := hr.units
  unfold b_law
  exact (ss_one (s_try0 (ss_one (s_ret (f_call (ok__law_all_right T) (hr.mono (by decide)) tk0 T.d__law_all_right.mg T.d__law_all_right.kp (a_cons (f_var 0) a_nil))))))
end
end K6
set_option Elab.async false
set_option autoImplicit false
set_option linter.all false
set_option maxRecDepth 100000
set_option maxHeartbeats 4000000
namespace Mi
open PySem PySem.Spec PyProof.Rows L2
/-! ### the law's facts: what the written part K says -/
mutual
def relK (K : PySem.W.Frag) : D → Value → Bool
  | .non, u => He.relB .non u
  | .bl b, u => He.relB (.bl b) u
  | .int i, u => He.relB (.int i) u
  | .str s, u => He.relB (.str s) u
  | .tup ds, u => match u with
    | .ref a => match K.lookup a with
      | some ⟨.type c, _, .seq its _, _⟩ => decide (c = "tuple") && (decide (its.size ≤ sizeLine) && relKs K ds its.toList)
      | _ => false
    | _ => false
  | .fl _, _ => false
  | .loc _, _ => false
  | .cls _, _ => false
  | .exc _ _, _ => false
def relKs (K : PySem.W.Frag) : List D → List Value → Bool
  | [], us => us.isEmpty
  | d :: ds, us => match us with
    | [] => false
    | u :: r => relK K d u && relKs K ds r
end
mutual
theorem relK_ok {K : PySem.W.Frag} : ∀ (d : D) (u : Value), relK K d u = true → ∃ v, RelV v u ∧ ∀ (cl : Cl) ρ H, RV ⟨K, cl⟩ ρ H d v
  | .non, u, h => ⟨.non, He.relB_ok h, fun _ _ _ => rfl⟩
  | .bl b, u, h => ⟨.bl b, He.relB_ok h, fun _ _ _ => rfl⟩
  | .int i, u, h => ⟨.int i, He.relB_ok h, fun _ _ _ => rfl⟩
  | .str s, u, h => ⟨.str s, He.relB_ok h, fun _ _ _ => rfl⟩
  | .tup ds, u, h => by
    unfold relK at h
    cases u with
    | ref a =>
      dsimp only at h
      cases q : K.lookup a with
      | none => rw [q] at h; cases h
      | some o =>
        obtain ⟨oc, od, dt, osl⟩ := o
        rw [q] at h
        cases oc with
        | type c =>
          cases dt with
          | seq its n =>
            obtain ⟨h1, h2⟩ := He.ba (show (decide (c = "tuple") && (decide (its.size ≤ sizeLine) && relKs K ds its.toList)) = true from h)
            obtain ⟨h3, h4⟩ := He.ba h2
            obtain ⟨vs, h5, h6⟩ := relKs_ok ds its.toList h4
            exact ⟨.ref a, rfl, fun cl ρ H => ⟨a, vs, rfl, .inr ⟨_, its, n, q, congrArg Value.type (of_decide_eq_true h1), rfl, of_decide_eq_true h3, h5⟩, h6 cl ρ H⟩⟩
          | _ => cases h
        | _ => cases dt <;> cases h
    | _ => cases h
  | .fl _, _, h => by cases h
  | .loc _, _, h => by cases h
  | .cls _, _, h => by cases h
  | .exc _ _, _, h => by cases h
theorem relKs_ok {K : PySem.W.Frag} : ∀ (ds : List D) (us : List Value), relKs K ds us = true → ∃ vs, Vals vs us ∧ ∀ (cl : Cl) ρ H, RVs ⟨K, cl⟩ ρ H ds vs
  | [], us, h => by
    unfold relKs at h
    cases us with
    | nil => exact ⟨[], .nil, fun _ _ _ => rfl⟩
    | cons u r => cases h
  | d :: ds, us, h => by
    unfold relKs at h
    cases us with
    | nil => cases h
    | cons u r =>
      obtain ⟨h1, h2⟩ := He.ba (show (relK K d u && relKs K ds r) = true from h)
      obtain ⟨v, a1, a2⟩ := relK_ok d u h1
      obtain ⟨vs, b1, b2⟩ := relKs_ok ds r h2
      exact ⟨v :: vs, .cons a1 b1, fun cl ρ H => ⟨v, vs, rfl, a2 cl ρ H, b2 cl ρ H⟩⟩
end
/-! one Bool a fact -/
section
variable {K : PySem.W.Frag} {h : Heap} {mg : Str → Option Value} {cl : Cl}
def bConst (x : Str) (d : D) (K : PySem.W.Frag) : Bool := match PySem.W.nsIn K mainGlobals x with
  | some (some u) => relK K d u
  | _ => false
theorem const_ok {x : Str} {d : D} (X : K.In h) (G : h.Ns mainGlobals mg) (c : bConst x d K = true) : GlobD ⟨K, cl⟩ mg x d := by
  unfold bConst at c
  split at c
  · rename_i u e
    obtain ⟨v, h1, h2⟩ := relK_ok d u c
    exact ⟨u, v, PySem.W.mg_of X G e, h1, fun ρ H => h2 cl ρ H⟩
  · cases c
def bFa (f : He.Fa) (K : PySem.W.Frag) : Bool := f.ok K
def bClsK (x : Str) (K : PySem.W.Frag) : Bool := (He.Fa.cls x).ok K && (He.eqO (PySem.W.findIn K (.ref (He.ga K x)) "__class__") (some (some (.builtin "object.__class__"))) && (He.eqO (PySem.W.specialIn K (.builtin "object.__class__") "__get__") (some (some (.builtin "getset_descriptor.__get__"))) &&
  (decide (PySem.W.takesIn K (.builtin "object.__class__") = some true) && decide (PySem.W.mroIn K (He.ga K x) (.type "object") = some true))))
theorem clsK_ok {x : Str} (c : bClsK x K = true) : ClsK K (He.ga K x) := by
  obtain ⟨c1, c⟩ := He.ba c
  obtain ⟨c2, c⟩ := He.ba c
  obtain ⟨c3, c⟩ := He.ba c
  obtain ⟨c4, c5⟩ := He.ba c
  exact ⟨He.cls_ok c1, He.eqO_ok c2, He.eqO_ok c3, of_decide_eq_true c4, of_decide_eq_true c5⟩
def bKit (x : Str) (t : String) (K : PySem.W.Frag) : Bool := decide (PySem.W.kitOne K (.ref (He.ga K x)) (.type t) = some false)
def bTy (x : Str) (K : PySem.W.Frag) : Bool := [Ty.non, .bool, .int, .str, .tup, .lst, .dct].all fun t => decide (PySem.W.kitOne K (.type t.nm) (.ref (He.ga K x)) = some false)
theorem ty_ok {x : Str} (c : bTy x K = true) (t : Ty) : PySem.W.kitOne K (.type t.nm) (.ref (He.ga K x)) = some false := by
  have q := List.all_eq_true.mp c t (by cases t <;> simp)
  exact of_decide_eq_true q
def bIs (x y : Str) (b : Bool) (K : PySem.W.Frag) : Bool := decide (PySem.W.kitOne K (.ref (He.ga K x)) (.ref (He.ga K y)) = some b)
def bOwn (x m : Str) (K : PySem.W.Frag) : Bool := He.eqO (PySem.W.findIn K (.ref (He.ga K x)) m) (some (some (.ref (He.ma K (He.ga K x) m)))) && PySem.W.isFn K (.ref (He.ma K (He.ga K x) m))
theorem own_ok {x m : Str} (c : bOwn x m K = true) : OwnDef K (He.ga K x) m (He.ma K (He.ga K x) m) := by
  obtain ⟨c1, c2⟩ := He.ba c
  exact ⟨He.eqO_ok c1, c2⟩
/-- a property's getter -/
def pf (K : PySem.W.Frag) (C : Addr) (f : Str) : Addr := match PySem.W.recIn K (He.ma K C f) "property" with
  | some (.ref g :: _) => g
  | _ => 0
def bProp (x f : Str) (K : PySem.W.Frag) : Bool := He.eqO (PySem.W.findIn K (.ref (He.ga K x)) f) (some (some (.ref (He.ma K (He.ga K x) f)))) && (He.eqO (PySem.W.specialIn K (.ref (He.ma K (He.ga K x) f)) "__get__") (some (some (.builtin "property.__get__"))) &&
  (decide (PySem.W.takesIn K (.ref (He.ma K (He.ga K x) f)) = some true) && (match PySem.W.recIn K (He.ma K (He.ga K x) f) "property" with
    | some (.ref _ :: _) => true
    | _ => false)))
theorem prop_ok {x f : Str} (c : bProp x f K = true) : PropOf K (He.ga K x) f (He.ma K (He.ga K x) f) (pf K (He.ga K x) f) := by
  obtain ⟨c1, c⟩ := He.ba c
  obtain ⟨c2, c⟩ := He.ba c
  obtain ⟨c3, c4⟩ := He.ba c
  refine ⟨He.eqO_ok c1, He.eqO_ok c2, of_decide_eq_true c3, ?_⟩
  unfold pf
  split at c4
  · rename_i g r e
    exact ⟨r, by rw [e]⟩
  · cases c4
def bRead (x : Str) (K : PySem.W.Frag) : Bool := PySem.W.readsIn K (He.ga K x) (.type "type") && He.eqO (PySem.W.specialIn K (.ref (He.ga K x)) "__getattribute__") (some (some (.builtin "type.__getattribute__")))
theorem read_ok {x : Str} (c : bRead x K = true) : ClX.CRead K (He.ga K x) (.type "type") := by
  obtain ⟨c1, c2⟩ := He.ba c
  exact ⟨c1, He.eqO_ok c2⟩
def bCmet (x m : Str) (K : PySem.W.Frag) : Bool := He5.wrapB K (He.ga K x) "classmethod" "classmethod.__get__" m && PySem.W.fnIn K (He5.wf K (He.ga K x) "classmethod" m)
theorem met_ok {x m : Str} (c : bCmet x m K = true) : ClX.CMet K (He.ga K x) (.type "type") m (He.ma K (He.ga K x) m) (He5.wf K (He.ga K x) "classmethod" m) := by
  obtain ⟨c1, c2⟩ := He.ba c
  exact He5.cmet_of c1 c2
def bSelf (x : Str) (K : PySem.W.Frag) : Bool := PySem.W.selfFirst K (He.ga K x)
def bNoSeq (x : Str) (K : PySem.W.Frag) : Bool := PySem.W.noSeq K (He.ga K x)
def bFn (x m : Str) (K : PySem.W.Frag) : Bool := PySem.W.fnIn K (He.ma K (He.ga K x) m)
end
/-! ### the Hook: the facts ex, the defs fn -/
def obsM (fn : List He5.DefA) (ex : List (PySem.W.Frag → Bool)) (K : PySem.W.Frag) : He.AlD := ((ex.all fun b => b K) && fn.all fun d => d.ok K, fn.map fun d => He5.fnA K (d.at_ K))
def SaysM (fn : List He5.DefA) (ex : List (PySem.W.Frag → Bool)) (K : PySem.W.Frag) : Prop := obsM fn ex K = (true, fn.map He5.DefA.val)
/-- what the module's names reach: functions with their codes and defaults, classes with what stands in them, tuples; each object once, by layers -/
def refsM (o : Obj) : List Addr := match o.data with
  | .seq its _ => its.toList.flatMap He.refV
  | .dict es _ => es.toList.flatMap fun e => He.refV e.val
  | .func fd => He.refV fd.code ++ (He.refV fd.defaults ++ He.refV fd.kwdefaults)
  | .cls cd => [cd.ns]
  | .fields vs => match o.cls with
    | .type t => match decide (t = "property") || decide (t = "classmethod") with
      | true => vs.toList.flatMap He.refV
      | false => []
    | _ => []
  | _ => []
def layM (g : Addr → Option Obj) : Nat → List Addr → List Addr
  | 0, as => as
  | n + 1, as => as ++ layM g n (as.flatMap fun a => match g a with
    | some o => refsM o
    | none => [])
def obsMG (n : Nat) (fn : List He5.DefA) (ex : List (PySem.W.Frag → Bool)) (g : Addr → Option Obj) : He.AlD := obsM fn ex (He.frG g (cStatics :: layM g n [mainGlobals]))
def hookM (n : Nat) (fn : List He5.DefA) (ex : List (PySem.W.Frag → Bool)) : PySem.W.Hook where
  α := He.AlD
  obs := fun s => obsMG n fn ex s.heap.get?
  val := fun _ => (true, fn.map He5.DefA.val)
  says := fun _ h => ∃ K : PySem.W.Frag, K.In h ∧ SaysM fn ex K
  of := fun _ _ e => ⟨_, He.frG_in, e⟩
  keeps := fun _ _ _ ⟨K, hK, c⟩ k => ⟨K, PySem.W.Frag.In.keeps hK k, c⟩
section
variable {fn : List He5.DefA} {ex : List (PySem.W.Frag → Bool)} {K : PySem.W.Frag}
theorem SaysM.bx (c : SaysM fn ex K) (i : Nat) {b : PySem.W.Frag → Bool} (h : ex[i]? = some b := by rfl) : b K = true := by
  have c1 := (He.ba (show ((ex.all fun b => b K) && fn.all fun d => d.ok K) = true from congrArg (fun z : He.AlD => z.1) c)).1
  exact List.all_eq_true.mp c1 b (List.mem_of_getElem? h)
theorem SaysM.fn_ (c : SaysM fn ex K) (i : Nat) {d : He5.DefA} (h : fn[i]? = some d := by rfl) : ∃ fd, FunD K d.name d.qual d.params d.body d.scope (d.dvs K) (d.kws K) (d.at_ K) fd := by
  have c2 := (He.ba (show ((ex.all fun b => b K) && fn.all fun d => d.ok K) = true from congrArg (fun z : He.AlD => z.1) c)).2
  have e2 : (fn.map fun d => He5.fnA K (d.at_ K))[i]? = (fn.map He5.DefA.val)[i]? := by rw [show fn.map (fun d => He5.fnA K (d.at_ K)) = fn.map He5.DefA.val from congrArg (fun z : He.AlD => z.2) c]
  rw [List.getElem?_map, List.getElem?_map, h] at e2
  exact He5.DefA.funD (Option.some.inj e2) (List.all_eq_true.mp c2 d (List.mem_of_getElem? h))
end
/-! ### the law's walk -/
theorem walkM {l : PySem.W.OpenLaw} {n k : Nat} {q : Program} {loose : List Str} {XP : (Str → Option Value) → Heap → Prop} {YP : World → Heap → Prop} {d : DefRec} {x : Str} (most : l.most = some n) (le : n ≤ sizeLine) (nodef : d.params.defaults = []) (room : Room k callerA)
    (F : ∀ (w : World) (mg : Str → Option Value) (fa : Addr) (h : Heap), YP w h → h.Ns mainGlobals mg → mg d.name = some (.ref fa) → ∃ (K : PySem.W.Frag) (fd : FuncData) (cl : Cl) (m : DN), K.In h ∧ (∀ (s : Shared) (u : Value), BindsTo s fd ⟨[u], []⟩ [(x, u)]) ∧
      (∀ ns : List Int, ns.length ≤ n → ∃ S, m [.fl (ns.map D.int)] [] = .ok (.bl true) S) ∧ ∀ base : Heap, K.In base → base.Ns mainGlobals mg → FnOk l.prog w K mg base (L2.CX l.prog w) k fa fd [x] (spF ⟨K, cl⟩ m)) :
    PySem.W.WalkO q loose XP YP l.row.toRowW d [] (fun f vs => PySem.call f vs) := by
  refine Att.attach_call most nodef fun w s0 s1 mg mb fa o pm cd doc a vs ns G Y ho hd hcd hmg hobj hints hlen hg => ?_
  obtain ⟨K, fd, cl, m, KX, hb, hm, hF⟩ := F w mg fa _ Y G.T.g hmg
  refine law_call KX G.T.g G.T.b G.T.builtins G.T.nolimit hg hobj hints (Nat.le_trans hlen le) room hF hb (fun H hO hS => ?_) fun H e s' hc => ?_
  · obtain ⟨S, e⟩ := hm ns hlen
    have rn : RelH ⟨K, cl⟩ [] H [] := ⟨rfl, List.nodup_nil, fun n a o h1 _ => by simp at h1⟩
    refine ⟨[], [.fl (ns.map D.int)], [], rn, ⟨.ref a, [], rfl, ⟨a, ns.map V.int, rfl, ⟨hS, ?_⟩, ints_rvs ns⟩, rfl⟩, ?_⟩
    · rcases hS with (z | z) | ⟨o', its, n', z⟩
      · rcases hO a with q | ⟨o2, xs, q⟩
        · rw [q] at z; cases z
        · rw [q] at z; cases z
      · exact .inl z
      · exact .inr fun H' => .inr ⟨o', its, n', z⟩
    · rw [e]
      intro b H' ρ' _ _ hb
      exact hb
  · obtain ⟨_, _, _, _, _, _, _, _, _, _, _, _, hE⟩ := hc
    exact hE
end Mi
set_option Elab.async false
set_option autoImplicit false
set_option linter.all false
set_option maxRecDepth 100000
set_option maxHeartbeats 0

namespace K6
open PySem L2 Mi
def ad (P : Program) (w : World) (K : PySem.W.Frag) : Ad where
  cl := { cl := fun c => match c with | 0 => He.ga K "Stack" | 1 => He.ga K "Alike" | 2 => He.ga K "Parts" | 3 => He.ga K "Fewest" | _ => He.ga K "Stack", fn := fun c => match c with | 0 => [("_layers" : Str), ("_columns" : Str)] | 1 => [("pairs" : Str)] | 2 => [("key" : Str), ("deeds" : Str)] | 3 => [("kept" : Str), ("pairs" : Str), ("parts" : Str)] | _ => [], pw := some (P, w) }
  mc_Stack := .type "type"
  mc_Alike := .type "type"
  mc_Parts := .type "type"
  mc_Fewest := .type "type"
  a_is_word := (He.ga K "is_word")
  a_is_integer := (He.ga K "is_integer")
  a_is_hook := (He.ga K "is_hook")
  a_is_layer := (He.ga K "is_layer")
  a_are_layers := (He.ga K "are_layers")
  a_is_held := (He.ga K "is_held")
  a_is_content := (He.ga K "is_content")
  a_are_contents := (He.ga K "are_contents")
  a_columns_of := (He.ga K "columns_of")
  a_Stack___init__ := (He.ma K (He.ga K "Stack") "__init__")
  a_check_key := (He.ga K "check_key")
  a_is_deed := (He.ga K "is_deed")
  a_is_base := (He.ga K "is_base")
  a_looks_down := (He.ga K "looks_down")
  a_placed := (He.ga K "placed")
  a_kept := (He.ga K "kept")
  a_written := (He.ga K "written")
  a_hooked := (He.ga K "hooked")
  a_asked := (He.ga K "asked")
  a_seen := (He.ga K "seen")
  a_removed := (He.ga K "removed")
  a_forgotten := (He.ga K "forgotten")
  a_done := (He.ga K "done")
  a_Stack_column := (He.ma K (He.ga K "Stack") "column")
  a_Stack__deed := (He.ma K (He.ga K "Stack") "_deed")
  a_Stack_do := (He.ma K (He.ga K "Stack") "do")
  a_Stack_of := (He5.wf K (He.ga K "Stack") "classmethod" "of")
  a_Stack___contains__ := (He.ma K (He.ga K "Stack") "__contains__")
  a_Stack___setitem__ := (He.ma K (He.ga K "Stack") "__setitem__")
  a_Stack___getitem__ := (He.ma K (He.ga K "Stack") "__getitem__")
  a_are_pairs := (He.ga K "are_pairs")
  a_Stack___ior__ := (He.ma K (He.ga K "Stack") "__ior__")
  a_Stack_held := (He.ma K (He.ga K "Stack") "held")
  a_Stack_visible := (He.ma K (He.ga K "Stack") "visible")
  a_Stack_forget := (He.ma K (He.ga K "Stack") "forget")
  a__law_deeds_right := (He.ga K "_law_deeds_right")
  a_Parts___len__ := (He.ma K (He.ga K "Parts") "__len__")
  a_count_of_deeds := (He.ga K "count_of_deeds")
  a_check_stack := (He.ga K "check_stack")
  a_check_both := (He.ga K "check_both")
  a_Stack_layers := (pf K (He.ga K "Stack") "layers")
  a_pair_after := (He.ga K "pair_after")
  a_Parts___init__ := (He.ma K (He.ga K "Parts") "__init__")
  a_Alike___init__ := (He.ma K (He.ga K "Alike") "__init__")
  a_compared := (He.ga K "compared")
  a_unheld_key := (He.ga K "unheld_key")
  a_first_pairs := (He.ga K "first_pairs")
  a_compared_deeds := (He.ga K "compared_deeds")
  a_alike := (He.ga K "alike")
  a_soonest := (He.ga K "soonest")
  a_Stack_plain := (He5.wf K (He.ga K "Stack") "classmethod" "plain")
  a_flat := (He.ga K "flat")
  a_is_flat := (He.ga K "is_flat")
  a_are_deeds := (He.ga K "are_deeds")
  a_can_part := (He.ga K "can_part")
  a_done_in_turn := (He.ga K "done_in_turn")
  a_last_answer := (He.ga K "last_answer")
  a_Parts_shows := (He.ma K (He.ga K "Parts") "shows")
  a_is_column := (He.ga K "is_column")
  a_is_pair := (He.ga K "is_pair")
  a_is_closed := (He.ga K "is_closed")
  a_Alike_shows := (He.ma K (He.ga K "Alike") "shows")
  a_all_choices := (He.ga K "all_choices")
  a_Stack__contents := (He.ma K (He.ga K "Stack") "_contents")
  a_Stack_chosen := (He.ma K (He.ga K "Stack") "chosen")
  a_Fewest___init__ := (He.ma K (He.ga K "Fewest") "__init__")
  a_fewest := (He.ga K "fewest")
  a__law_alike_right := (He.ga K "_law_alike_right")
  a_fewest_size := (He.ga K "fewest_size")
  a_is_choice := (He.ga K "is_choice")
  a_are_fewer := (He.ga K "are_fewer")
  a_is_parted := (He.ga K "is_parted")
  a_Fewest_shows := (He.ma K (He.ga K "Fewest") "shows")
  a_Stack___eq__ := (He.ma K (He.ga K "Stack") "__eq__")
  a__law_fewest_right := (He.ga K "_law_fewest_right")
  a__law_all_right := (He.ga K "_law_all_right")
  a_law := (He.ga K "law")
  p_Stack_of := He.ma K (He.ga K "Stack") "of"
  p_Stack_plain := He.ma K (He.ga K "Stack") "plain"
  p_Stack_layers := He.ma K (He.ga K "Stack") "layers"

def dA_is_word : He5.DefA := ⟨fun K => (He.ga K "is_word"), "is_word", "is_word", defArgs s_is_word, defBody s_is_word, defScope s_is_word, [], []⟩
def dA_is_integer : He5.DefA := ⟨fun K => (He.ga K "is_integer"), "is_integer", "is_integer", defArgs s_is_integer, defBody s_is_integer, defScope s_is_integer, [], []⟩
def dA_is_hook : He5.DefA := ⟨fun K => (He.ga K "is_hook"), "is_hook", "is_hook", defArgs s_is_hook, defBody s_is_hook, defScope s_is_hook, [], []⟩
def dA_is_layer : He5.DefA := ⟨fun K => (He.ga K "is_layer"), "is_layer", "is_layer", defArgs s_is_layer, defBody s_is_layer, defScope s_is_layer, [], []⟩
def dA_are_layers : He5.DefA := ⟨fun K => (He.ga K "are_layers"), "are_layers", "are_layers", defArgs s_are_layers, defBody s_are_layers, defScope s_are_layers, [], []⟩
def dA_is_held : He5.DefA := ⟨fun K => (He.ga K "is_held"), "is_held", "is_held", defArgs s_is_held, defBody s_is_held, defScope s_is_held, [], []⟩
def dA_is_content : He5.DefA := ⟨fun K => (He.ga K "is_content"), "is_content", "is_content", defArgs s_is_content, defBody s_is_content, defScope s_is_content, [], []⟩
def dA_are_contents : He5.DefA := ⟨fun K => (He.ga K "are_contents"), "are_contents", "are_contents", defArgs s_are_contents, defBody s_are_contents, defScope s_are_contents, [], []⟩
def dA_columns_of : He5.DefA := ⟨fun K => (He.ga K "columns_of"), "columns_of", "columns_of", defArgs s_columns_of, defBody s_columns_of, defScope s_columns_of, [], []⟩
def dA_Stack___init__ : He5.DefA := ⟨fun K => (He.ma K (He.ga K "Stack") "__init__"), "__init__", "Stack.__init__", defArgs s_Stack___init__, defBody s_Stack___init__, defScope s_Stack___init__, [.non], []⟩
def dA_check_key : He5.DefA := ⟨fun K => (He.ga K "check_key"), "check_key", "check_key", defArgs s_check_key, defBody s_check_key, defScope s_check_key, [], []⟩
def dA_is_deed : He5.DefA := ⟨fun K => (He.ga K "is_deed"), "is_deed", "is_deed", defArgs s_is_deed, defBody s_is_deed, defScope s_is_deed, [], []⟩
def dA_is_base : He5.DefA := ⟨fun K => (He.ga K "is_base"), "is_base", "is_base", defArgs s_is_base, defBody s_is_base, defScope s_is_base, [], []⟩
def dA_looks_down : He5.DefA := ⟨fun K => (He.ga K "looks_down"), "looks_down", "looks_down", defArgs s_looks_down, defBody s_looks_down, defScope s_looks_down, [], []⟩
def dA_placed : He5.DefA := ⟨fun K => (He.ga K "placed"), "placed", "placed", defArgs s_placed, defBody s_placed, defScope s_placed, [], []⟩
def dA_kept : He5.DefA := ⟨fun K => (He.ga K "kept"), "kept", "kept", defArgs s_kept, defBody s_kept, defScope s_kept, [], []⟩
def dA_written : He5.DefA := ⟨fun K => (He.ga K "written"), "written", "written", defArgs s_written, defBody s_written, defScope s_written, [], []⟩
def dA_hooked : He5.DefA := ⟨fun K => (He.ga K "hooked"), "hooked", "hooked", defArgs s_hooked, defBody s_hooked, defScope s_hooked, [], []⟩
def dA_asked : He5.DefA := ⟨fun K => (He.ga K "asked"), "asked", "asked", defArgs s_asked, defBody s_asked, defScope s_asked, [], []⟩
def dA_seen : He5.DefA := ⟨fun K => (He.ga K "seen"), "seen", "seen", defArgs s_seen, defBody s_seen, defScope s_seen, [], []⟩
def dA_removed : He5.DefA := ⟨fun K => (He.ga K "removed"), "removed", "removed", defArgs s_removed, defBody s_removed, defScope s_removed, [], []⟩
def dA_forgotten : He5.DefA := ⟨fun K => (He.ga K "forgotten"), "forgotten", "forgotten", defArgs s_forgotten, defBody s_forgotten, defScope s_forgotten, [], []⟩
def dA_done : He5.DefA := ⟨fun K => (He.ga K "done"), "done", "done", defArgs s_done, defBody s_done, defScope s_done, [], []⟩
def dA_Stack_column : He5.DefA := ⟨fun K => (He.ma K (He.ga K "Stack") "column"), "column", "Stack.column", defArgs s_Stack_column, defBody s_Stack_column, defScope s_Stack_column, [], []⟩
def dA_Stack__deed : He5.DefA := ⟨fun K => (He.ma K (He.ga K "Stack") "_deed"), "_deed", "Stack._deed", defArgs s_Stack__deed, defBody s_Stack__deed, defScope s_Stack__deed, [], []⟩
def dA_Stack_do : He5.DefA := ⟨fun K => (He.ma K (He.ga K "Stack") "do"), "do", "Stack.do", defArgs s_Stack_do, defBody s_Stack_do, defScope s_Stack_do, [], []⟩
def dA_Stack_of : He5.DefA := ⟨fun K => (He5.wf K (He.ga K "Stack") "classmethod" "of"), "of", "Stack.of", defArgs s_Stack_of, defBody s_Stack_of, defScope s_Stack_of, [], []⟩
def dA_Stack___contains__ : He5.DefA := ⟨fun K => (He.ma K (He.ga K "Stack") "__contains__"), "__contains__", "Stack.__contains__", defArgs s_Stack___contains__, defBody s_Stack___contains__, defScope s_Stack___contains__, [], []⟩
def dA_Stack___setitem__ : He5.DefA := ⟨fun K => (He.ma K (He.ga K "Stack") "__setitem__"), "__setitem__", "Stack.__setitem__", defArgs s_Stack___setitem__, defBody s_Stack___setitem__, defScope s_Stack___setitem__, [], []⟩
def dA_Stack___getitem__ : He5.DefA := ⟨fun K => (He.ma K (He.ga K "Stack") "__getitem__"), "__getitem__", "Stack.__getitem__", defArgs s_Stack___getitem__, defBody s_Stack___getitem__, defScope s_Stack___getitem__, [], []⟩
def dA_are_pairs : He5.DefA := ⟨fun K => (He.ga K "are_pairs"), "are_pairs", "are_pairs", defArgs s_are_pairs, defBody s_are_pairs, defScope s_are_pairs, [], []⟩
def dA_Stack___ior__ : He5.DefA := ⟨fun K => (He.ma K (He.ga K "Stack") "__ior__"), "__ior__", "Stack.__ior__", defArgs s_Stack___ior__, defBody s_Stack___ior__, defScope s_Stack___ior__, [], []⟩
def dA_Stack_held : He5.DefA := ⟨fun K => (He.ma K (He.ga K "Stack") "held"), "held", "Stack.held", defArgs s_Stack_held, defBody s_Stack_held, defScope s_Stack_held, [], []⟩
def dA_Stack_visible : He5.DefA := ⟨fun K => (He.ma K (He.ga K "Stack") "visible"), "visible", "Stack.visible", defArgs s_Stack_visible, defBody s_Stack_visible, defScope s_Stack_visible, [], []⟩
def dA_Stack_forget : He5.DefA := ⟨fun K => (He.ma K (He.ga K "Stack") "forget"), "forget", "Stack.forget", defArgs s_Stack_forget, defBody s_Stack_forget, defScope s_Stack_forget, [], []⟩
def dA__law_deeds_right : He5.DefA := ⟨fun K => (He.ga K "_law_deeds_right"), "_law_deeds_right", "_law_deeds_right", defArgs s__law_deeds_right, defBody s__law_deeds_right, defScope s__law_deeds_right, [], []⟩
def dA_Parts___len__ : He5.DefA := ⟨fun K => (He.ma K (He.ga K "Parts") "__len__"), "__len__", "Parts.__len__", defArgs s_Parts___len__, defBody s_Parts___len__, defScope s_Parts___len__, [], []⟩
def dA_count_of_deeds : He5.DefA := ⟨fun K => (He.ga K "count_of_deeds"), "count_of_deeds", "count_of_deeds", defArgs s_count_of_deeds, defBody s_count_of_deeds, defScope s_count_of_deeds, [], []⟩
def dA_check_stack : He5.DefA := ⟨fun K => (He.ga K "check_stack"), "check_stack", "check_stack", defArgs s_check_stack, defBody s_check_stack, defScope s_check_stack, [], []⟩
def dA_check_both : He5.DefA := ⟨fun K => (He.ga K "check_both"), "check_both", "check_both", defArgs s_check_both, defBody s_check_both, defScope s_check_both, [], []⟩
def dA_Stack_layers : He5.DefA := ⟨fun K => (pf K (He.ga K "Stack") "layers"), "layers", "Stack.layers", defArgs s_Stack_layers, defBody s_Stack_layers, defScope s_Stack_layers, [], []⟩
def dA_pair_after : He5.DefA := ⟨fun K => (He.ga K "pair_after"), "pair_after", "pair_after", defArgs s_pair_after, defBody s_pair_after, defScope s_pair_after, [], []⟩
def dA_Parts___init__ : He5.DefA := ⟨fun K => (He.ma K (He.ga K "Parts") "__init__"), "__init__", "Parts.__init__", defArgs s_Parts___init__, defBody s_Parts___init__, defScope s_Parts___init__, [], []⟩
def dA_Alike___init__ : He5.DefA := ⟨fun K => (He.ma K (He.ga K "Alike") "__init__"), "__init__", "Alike.__init__", defArgs s_Alike___init__, defBody s_Alike___init__, defScope s_Alike___init__, [], []⟩
def dA_compared : He5.DefA := ⟨fun K => (He.ga K "compared"), "compared", "compared", defArgs s_compared, defBody s_compared, defScope s_compared, [], []⟩
def dA_unheld_key : He5.DefA := ⟨fun K => (He.ga K "unheld_key"), "unheld_key", "unheld_key", defArgs s_unheld_key, defBody s_unheld_key, defScope s_unheld_key, [], []⟩
def dA_first_pairs : He5.DefA := ⟨fun K => (He.ga K "first_pairs"), "first_pairs", "first_pairs", defArgs s_first_pairs, defBody s_first_pairs, defScope s_first_pairs, [], []⟩
def dA_compared_deeds : He5.DefA := ⟨fun K => (He.ga K "compared_deeds"), "compared_deeds", "compared_deeds", defArgs s_compared_deeds, defBody s_compared_deeds, defScope s_compared_deeds, [], []⟩
def dA_alike : He5.DefA := ⟨fun K => (He.ga K "alike"), "alike", "alike", defArgs s_alike, defBody s_alike, defScope s_alike, [], [("shared", .bl true)]⟩
def dA_soonest : He5.DefA := ⟨fun K => (He.ga K "soonest"), "soonest", "soonest", defArgs s_soonest, defBody s_soonest, defScope s_soonest, [], [("shared", .bl true)]⟩
def dA_Stack_plain : He5.DefA := ⟨fun K => (He5.wf K (He.ga K "Stack") "classmethod" "plain"), "plain", "Stack.plain", defArgs s_Stack_plain, defBody s_Stack_plain, defScope s_Stack_plain, [], []⟩
def dA_flat : He5.DefA := ⟨fun K => (He.ga K "flat"), "flat", "flat", defArgs s_flat, defBody s_flat, defScope s_flat, [], []⟩
def dA_is_flat : He5.DefA := ⟨fun K => (He.ga K "is_flat"), "is_flat", "is_flat", defArgs s_is_flat, defBody s_is_flat, defScope s_is_flat, [], [("shared", .bl true)]⟩
def dA_are_deeds : He5.DefA := ⟨fun K => (He.ga K "are_deeds"), "are_deeds", "are_deeds", defArgs s_are_deeds, defBody s_are_deeds, defScope s_are_deeds, [], []⟩
def dA_can_part : He5.DefA := ⟨fun K => (He.ga K "can_part"), "can_part", "can_part", defArgs s_can_part, defBody s_can_part, defScope s_can_part, [], []⟩
def dA_done_in_turn : He5.DefA := ⟨fun K => (He.ga K "done_in_turn"), "done_in_turn", "done_in_turn", defArgs s_done_in_turn, defBody s_done_in_turn, defScope s_done_in_turn, [], []⟩
def dA_last_answer : He5.DefA := ⟨fun K => (He.ga K "last_answer"), "last_answer", "last_answer", defArgs s_last_answer, defBody s_last_answer, defScope s_last_answer, [], []⟩
def dA_Parts_shows : He5.DefA := ⟨fun K => (He.ma K (He.ga K "Parts") "shows"), "shows", "Parts.shows", defArgs s_Parts_shows, defBody s_Parts_shows, defScope s_Parts_shows, [], [("shared", .bl true)]⟩
def dA_is_column : He5.DefA := ⟨fun K => (He.ga K "is_column"), "is_column", "is_column", defArgs s_is_column, defBody s_is_column, defScope s_is_column, [], []⟩
def dA_is_pair : He5.DefA := ⟨fun K => (He.ga K "is_pair"), "is_pair", "is_pair", defArgs s_is_pair, defBody s_is_pair, defScope s_is_pair, [], []⟩
def dA_is_closed : He5.DefA := ⟨fun K => (He.ga K "is_closed"), "is_closed", "is_closed", defArgs s_is_closed, defBody s_is_closed, defScope s_is_closed, [], []⟩
def dA_Alike_shows : He5.DefA := ⟨fun K => (He.ma K (He.ga K "Alike") "shows"), "shows", "Alike.shows", defArgs s_Alike_shows, defBody s_Alike_shows, defScope s_Alike_shows, [], [("shared", .bl true)]⟩
def dA_all_choices : He5.DefA := ⟨fun K => (He.ga K "all_choices"), "all_choices", "all_choices", defArgs s_all_choices, defBody s_all_choices, defScope s_all_choices, [], []⟩
def dA_Stack__contents : He5.DefA := ⟨fun K => (He.ma K (He.ga K "Stack") "_contents"), "_contents", "Stack._contents", defArgs s_Stack__contents, defBody s_Stack__contents, defScope s_Stack__contents, [], []⟩
def dA_Stack_chosen : He5.DefA := ⟨fun K => (He.ma K (He.ga K "Stack") "chosen"), "chosen", "Stack.chosen", defArgs s_Stack_chosen, defBody s_Stack_chosen, defScope s_Stack_chosen, [], []⟩
def dA_Fewest___init__ : He5.DefA := ⟨fun K => (He.ma K (He.ga K "Fewest") "__init__"), "__init__", "Fewest.__init__", defArgs s_Fewest___init__, defBody s_Fewest___init__, defScope s_Fewest___init__, [], []⟩
def dA_fewest : He5.DefA := ⟨fun K => (He.ga K "fewest"), "fewest", "fewest", defArgs s_fewest, defBody s_fewest, defScope s_fewest, [], [("shared", .bl true)]⟩
def dA__law_alike_right : He5.DefA := ⟨fun K => (He.ga K "_law_alike_right"), "_law_alike_right", "_law_alike_right", defArgs s__law_alike_right, defBody s__law_alike_right, defScope s__law_alike_right, [], []⟩
def dA_fewest_size : He5.DefA := ⟨fun K => (He.ga K "fewest_size"), "fewest_size", "fewest_size", defArgs s_fewest_size, defBody s_fewest_size, defScope s_fewest_size, [], [("shared", .bl true)]⟩
def dA_is_choice : He5.DefA := ⟨fun K => (He.ga K "is_choice"), "is_choice", "is_choice", defArgs s_is_choice, defBody s_is_choice, defScope s_is_choice, [], []⟩
def dA_are_fewer : He5.DefA := ⟨fun K => (He.ga K "are_fewer"), "are_fewer", "are_fewer", defArgs s_are_fewer, defBody s_are_fewer, defScope s_are_fewer, [], []⟩
def dA_is_parted : He5.DefA := ⟨fun K => (He.ga K "is_parted"), "is_parted", "is_parted", defArgs s_is_parted, defBody s_is_parted, defScope s_is_parted, [], []⟩
def dA_Fewest_shows : He5.DefA := ⟨fun K => (He.ma K (He.ga K "Fewest") "shows"), "shows", "Fewest.shows", defArgs s_Fewest_shows, defBody s_Fewest_shows, defScope s_Fewest_shows, [], [("shared", .bl true)]⟩
def dA_Stack___eq__ : He5.DefA := ⟨fun K => (He.ma K (He.ga K "Stack") "__eq__"), "__eq__", "Stack.__eq__", defArgs s_Stack___eq__, defBody s_Stack___eq__, defScope s_Stack___eq__, [], []⟩
def dA__law_fewest_right : He5.DefA := ⟨fun K => (He.ga K "_law_fewest_right"), "_law_fewest_right", "_law_fewest_right", defArgs s__law_fewest_right, defBody s__law_fewest_right, defScope s__law_fewest_right, [], []⟩
def dA__law_all_right : He5.DefA := ⟨fun K => (He.ga K "_law_all_right"), "_law_all_right", "_law_all_right", defArgs s__law_all_right, defBody s__law_all_right, defScope s__law_all_right, [], []⟩
def dA_law : He5.DefA := ⟨fun K => (He.ga K "law"), "law", "law", defArgs s_law, defBody s_law, defScope s_law, [], []⟩
def fn0 : List He5.DefA := [
  dA_is_word, dA_is_integer, dA_is_hook, dA_is_layer, dA_are_layers, dA_is_held, dA_is_content, dA_are_contents, dA_columns_of, dA_Stack___init__, dA_check_key, dA_is_deed, dA_is_base, dA_looks_down, dA_placed, dA_kept, dA_written, dA_hooked, dA_asked, dA_seen, dA_removed, dA_forgotten, dA_done, dA_Stack_column, dA_Stack__deed, dA_Stack_do, dA_Stack_of, dA_Stack___contains__, dA_Stack___setitem__, dA_Stack___getitem__]
def fn1 : List He5.DefA := [
  dA_are_pairs, dA_Stack___ior__, dA_Stack_held, dA_Stack_visible, dA_Stack_forget, dA__law_deeds_right, dA_Parts___len__, dA_count_of_deeds, dA_check_stack, dA_check_both, dA_Stack_layers, dA_pair_after, dA_Parts___init__, dA_Alike___init__, dA_compared, dA_unheld_key, dA_first_pairs, dA_compared_deeds, dA_alike, dA_soonest, dA_Stack_plain, dA_flat, dA_is_flat, dA_are_deeds, dA_can_part, dA_done_in_turn, dA_last_answer, dA_Parts_shows, dA_is_column, dA_is_pair]
def fn2 : List He5.DefA := [
  dA_is_closed, dA_Alike_shows, dA_all_choices, dA_Stack__contents, dA_Stack_chosen, dA_Fewest___init__, dA_fewest, dA__law_alike_right, dA_fewest_size, dA_is_choice, dA_are_fewer, dA_is_parted, dA_Fewest_shows, dA_Stack___eq__, dA__law_fewest_right, dA__law_all_right, dA_law]
def fn : List He5.DefA := fn0 ++ fn1 ++ fn2
def ex0 : List (PySem.W.Frag → Bool) := [
  bFa (.glo "law"),
  bFa (.glo "_law_all_right"),
  bFa (.free "int"),
  bFa (.free "sum"),
  bFa (.glo "_law_deeds_right"),
  bFa (.glo "Stack"),
  bFa (.mkr "Stack"),
  bFa (.glo "are_layers"),
  bFa (.free "isinstance"),
  bClsK "Stack",
  bClsK "Alike",
  bClsK "Parts",
  bClsK "Fewest",
  bFa (.free "tuple"),
  bKit "Stack" "tuple",
  bKit "Alike" "tuple",
  bKit "Parts" "tuple",
  bKit "Fewest" "tuple",
  bFa (.free "len"),
  bConst "MOST_LAYERS" (.int 3),
  bFa (.free "all"),
  bFa (.glo "is_layer"),
  bFa (.glo "is_word"),
  bFa (.free "str"),
  bKit "Stack" "str",
  bKit "Alike" "str",
  bKit "Parts" "str",
  bKit "Fewest" "str",
  bConst "WRITES" (.tup [(.str "here"), (.str "down"), (.str "both")]),
  bConst "FORGETS" (.tup [(.str "here"), (.str "hide"), (.str "down"), (.str "both")])]
def ex1 : List (PySem.W.Frag → Bool) := [
  bConst "READS" (.tup [(.str "look"), (.str "keep"), (.str "shut")]),
  bFa (.glo "is_hook"),
  bConst "HOOKS" (.tup [(.str "told"), (.str "made")]),
  bFa (.glo "is_integer"),
  bKit "Stack" "int",
  bKit "Alike" "int",
  bKit "Parts" "int",
  bKit "Fewest" "int",
  bFa (.free "bool"),
  bKit "Stack" "bool",
  bKit "Alike" "bool",
  bKit "Parts" "bool",
  bKit "Fewest" "bool",
  bFa (.glo "are_contents"),
  bFa (.glo "is_content"),
  bFa (.free "dict"),
  bKit "Stack" "dict",
  bKit "Alike" "dict",
  bKit "Parts" "dict",
  bKit "Fewest" "dict",
  bFa (.glo "is_held"),
  bConst "HIDDEN" (.str "hidden"),
  bFa (.noat "Stack" "_layers"),
  bFa (.noat "Stack" "_columns"),
  bFa (.glo "columns_of"),
  bFa (.free "sorted"),
  bFa (.meth "Stack" "do"),
  bFa (.glo "check_key"),
  bFa (.glo "is_deed"),
  bConst "BARE_DEEDS" (.tup [(.str "ask"), (.str "has"), (.str "forget")])]
def ex2 : List (PySem.W.Frag → Bool) := [
  bFa (.meth "Stack" "_deed"),
  bFa (.glo "done"),
  bFa (.glo "asked"),
  bFa (.glo "looks_down"),
  bConst "READ" (.int 2),
  bFa (.glo "is_base"),
  bFa (.glo "kept"),
  bFa (.glo "placed"),
  bFa (.glo "hooked"),
  bConst "HOOK" (.int 3),
  bFa (.glo "written"),
  bConst "WRITE" (.int 0),
  bFa (.glo "seen"),
  bFa (.glo "forgotten"),
  bConst "FORGET" (.int 1),
  bFa (.glo "removed"),
  bFa (.meth "Stack" "column"),
  bRead "Stack",
  bCmet "Stack" "of",
  bOwn "Stack" "__contains__",
  bOwn "Stack" "__setitem__",
  bNoSeq "Stack",
  bOwn "Stack" "__getitem__",
  bFn "Stack" "__getitem__",
  bSelf "Stack",
  bOwn "Stack" "__ior__",
  bFa (.glo "are_pairs"),
  bFa (.meth "Stack" "visible"),
  bFa (.meth "Stack" "held"),
  bFa (.free "list")]
def ex3 : List (PySem.W.Frag → Bool) := [
  bFa (.meth "Stack" "forget"),
  bFa (.glo "_law_alike_right"),
  bFa (.glo "soonest"),
  bFa (.glo "count_of_deeds"),
  bTy "Parts",
  bIs "Stack" "Parts" false,
  bIs "Alike" "Parts" false,
  bIs "Parts" "Parts" true,
  bIs "Fewest" "Parts" false,
  bFa (.glo "Parts"),
  bOwn "Parts" "__len__",
  bFa (.noat "Parts" "key"),
  bFa (.noat "Parts" "deeds"),
  bFa (.glo "alike"),
  bFa (.glo "check_both"),
  bFa (.glo "check_stack"),
  bTy "Stack",
  bIs "Stack" "Stack" true,
  bIs "Alike" "Stack" false,
  bIs "Parts" "Stack" false,
  bIs "Fewest" "Stack" false,
  bFa (.glo "compared"),
  bFa (.glo "pair_after"),
  bProp "Stack" "layers",
  bFa (.mkr "Parts"),
  bFa (.glo "Alike"),
  bFa (.mkr "Alike"),
  bFa (.noat "Alike" "pairs"),
  bFa (.glo "first_pairs"),
  bFa (.free "set")]
def ex4 : List (PySem.W.Frag → Bool) := [
  bFa (.glo "unheld_key"),
  bFa (.glo "compared_deeds"),
  bConst "OWN_DEEDS" (.tup [(.tup [(.str "ask")]), (.tup [(.str "has")]), (.tup [(.str "write"), (.int 0)]), (.tup [(.str "write"), (.int 1)]), (.tup [(.str "forget")])]),
  bConst "SHARED_DEEDS" (.tup [(.tup [(.str "beneath"), (.int 0)]), (.tup [(.str "beneath"), (.int 1)]), (.tup [(.str "beneath"), .non])]),
  bFa (.glo "is_flat"),
  bFa (.glo "flat"),
  bCmet "Stack" "plain",
  bConst "PLAIN_LAYER" (.tup [(.str "here"), (.str "here"), (.str "look"), .non]),
  bFa (.meth "Parts" "shows"),
  bFa (.glo "can_part"),
  bFa (.glo "are_deeds"),
  bFa (.glo "last_answer"),
  bFa (.glo "done_in_turn"),
  bFa (.free "any"),
  bFa (.meth "Alike" "shows"),
  bFa (.glo "is_pair"),
  bFa (.glo "is_column"),
  bFa (.glo "is_closed"),
  bFa (.noat "Fewest" "kept"),
  bFa (.noat "Fewest" "pairs"),
  bFa (.noat "Fewest" "parts"),
  bFa (.glo "fewest"),
  bFa (.glo "all_choices"),
  bFa (.free "range"),
  bFa (.meth "Stack" "chosen"),
  bFa (.meth "Stack" "_contents"),
  bFa (.glo "Fewest"),
  bFa (.mkr "Fewest"),
  bFa (.glo "_law_fewest_right"),
  bFa (.glo "fewest_size")]
def ex5 : List (PySem.W.Frag → Bool) := [
  bFa (.meth "Fewest" "shows"),
  bFa (.glo "is_choice"),
  bFa (.glo "are_fewer"),
  bFa (.glo "is_parted"),
  bOwn "Stack" "__eq__"]
def ex : List (PySem.W.Frag → Bool) := ex0 ++ ex1 ++ ex2 ++ ex3 ++ ex4 ++ ex5
theorem tx {P : Program} {w : World} {K : PySem.W.Frag} {h : Heap} {mg : Str → Option Value} (X : K.In h) (G : h.Ns mainGlobals mg) (c : SaysM fn ex K) : Tx P w K mg (ad P w K) := {
  pw := rfl,
  d_law := ⟨let ⟨fd, F⟩ := (c.fn_ 76 (d := dA_law)); ⟨fd, He5.fun_of F, (He.glo_ok X G (c.bx 0))⟩⟩,
  d__law_all_right := ⟨let ⟨fd, F⟩ := (c.fn_ 75 (d := dA__law_all_right)); ⟨fd, He5.fun_of F, (He.glo_ok X G (c.bx 1))⟩⟩,
  n_int := He.free_ok X G (c.bx 2),
  n_sum := He.free_ok X G (c.bx 3),
  d__law_deeds_right := ⟨let ⟨fd, F⟩ := (c.fn_ 35 (d := dA__law_deeds_right)); ⟨fd, He5.fun_of F, (He.glo_ok X G (c.bx 4))⟩⟩,
  g_Stack := He.glo_ok X G (c.bx 5),
  mk_Stack := He.mkr_ok (c.bx 6),
  d_Stack___init__ := (c.fn_ 9 (d := dA_Stack___init__)),
  d_are_layers := ⟨let ⟨fd, F⟩ := (c.fn_ 4 (d := dA_are_layers)); ⟨fd, He5.fun_of F, (He.glo_ok X G (c.bx 7))⟩⟩,
  n_isinstance := He.free_ok X G (c.bx 8),
  kC := (fun c0 => match c0 with | 0 => clsK_ok (c.bx 9) | 1 => clsK_ok (c.bx 10) | 2 => clsK_ok (c.bx 11) | 3 => clsK_ok (c.bx 12) | _ + 4 => clsK_ok (c.bx 9)),
  n_tuple := He.free_ok X G (c.bx 13),
  k_tuple := (fun c0 => match c0 with | 0 => of_decide_eq_true (c.bx 14) | 1 => of_decide_eq_true (c.bx 15) | 2 => of_decide_eq_true (c.bx 16) | 3 => of_decide_eq_true (c.bx 17) | _ + 4 => of_decide_eq_true (c.bx 14)),
  n_len := He.free_ok X G (c.bx 18),
  c_MOST_LAYERS := const_ok X G (c.bx 19),
  n_all := He.free_ok X G (c.bx 20),
  d_is_layer := ⟨let ⟨fd, F⟩ := (c.fn_ 3 (d := dA_is_layer)); ⟨fd, He5.fun_of F, (He.glo_ok X G (c.bx 21))⟩⟩,
  d_is_word := ⟨let ⟨fd, F⟩ := (c.fn_ 0 (d := dA_is_word)); ⟨fd, He5.fun_of F, (He.glo_ok X G (c.bx 22))⟩⟩,
  n_str := He.free_ok X G (c.bx 23),
  k_str := (fun c0 => match c0 with | 0 => of_decide_eq_true (c.bx 24) | 1 => of_decide_eq_true (c.bx 25) | 2 => of_decide_eq_true (c.bx 26) | 3 => of_decide_eq_true (c.bx 27) | _ + 4 => of_decide_eq_true (c.bx 24)),
  c_WRITES := const_ok X G (c.bx 28),
  c_FORGETS := const_ok X G (c.bx 29),
  c_READS := const_ok X G (c.bx 30),
  d_is_hook := ⟨let ⟨fd, F⟩ := (c.fn_ 2 (d := dA_is_hook)); ⟨fd, He5.fun_of F, (He.glo_ok X G (c.bx 31))⟩⟩,
  c_HOOKS := const_ok X G (c.bx 32),
  d_is_integer := ⟨let ⟨fd, F⟩ := (c.fn_ 1 (d := dA_is_integer)); ⟨fd, He5.fun_of F, (He.glo_ok X G (c.bx 33))⟩⟩,
  k_int := (fun c0 => match c0 with | 0 => of_decide_eq_true (c.bx 34) | 1 => of_decide_eq_true (c.bx 35) | 2 => of_decide_eq_true (c.bx 36) | 3 => of_decide_eq_true (c.bx 37) | _ + 4 => of_decide_eq_true (c.bx 34)),
  n_bool := He.free_ok X G (c.bx 38),
  k_bool := (fun c0 => match c0 with | 0 => of_decide_eq_true (c.bx 39) | 1 => of_decide_eq_true (c.bx 40) | 2 => of_decide_eq_true (c.bx 41) | 3 => of_decide_eq_true (c.bx 42) | _ + 4 => of_decide_eq_true (c.bx 39)),
  d_are_contents := ⟨let ⟨fd, F⟩ := (c.fn_ 7 (d := dA_are_contents)); ⟨fd, He5.fun_of F, (He.glo_ok X G (c.bx 43))⟩⟩,
  d_is_content := ⟨let ⟨fd, F⟩ := (c.fn_ 6 (d := dA_is_content)); ⟨fd, He5.fun_of F, (He.glo_ok X G (c.bx 44))⟩⟩,
  n_dict := He.free_ok X G (c.bx 45),
  k_dict := (fun c0 => match c0 with | 0 => of_decide_eq_true (c.bx 46) | 1 => of_decide_eq_true (c.bx 47) | 2 => of_decide_eq_true (c.bx 48) | 3 => of_decide_eq_true (c.bx 49) | _ + 4 => of_decide_eq_true (c.bx 46)),
  d_is_held := ⟨let ⟨fd, F⟩ := (c.fn_ 5 (d := dA_is_held)); ⟨fd, He5.fun_of F, (He.glo_ok X G (c.bx 50))⟩⟩,
  c_HIDDEN := const_ok X G (c.bx 51),
  f_Stack := ⟨clsK_ok (c.bx 9), (show ([("_layers" : Str), ("_columns" : Str)] : List Str).Nodup from by decide +kernel), (fun f hf => by
    rcases hf with _ | ⟨_, hf⟩
    · exact He.noat_ok (c.bx 52)
    · rcases hf with _ | ⟨_, hf⟩
      · exact He.noat_ok (c.bx 53)
      · cases hf), (show ([("_layers" : Str), ("_columns" : Str)] : List Str).length < 1000 from by decide)⟩,
  e_Stack := rfl,
  d_columns_of := ⟨let ⟨fd, F⟩ := (c.fn_ 8 (d := dA_columns_of)); ⟨fd, He5.fun_of F, (He.glo_ok X G (c.bx 54))⟩⟩,
  n_sorted := He.free_ok X G (c.bx 55),
  me_Stack_do := He.meth_ok (c.bx 56),
  d_Stack_do := ⟨let ⟨fd, F⟩ := (c.fn_ 25 (d := dA_Stack_do)); ⟨fd, He5.fun_of F⟩⟩,
  d_check_key := ⟨let ⟨fd, F⟩ := (c.fn_ 10 (d := dA_check_key)); ⟨fd, He5.fun_of F, (He.glo_ok X G (c.bx 57))⟩⟩,
  d_is_deed := ⟨let ⟨fd, F⟩ := (c.fn_ 11 (d := dA_is_deed)); ⟨fd, He5.fun_of F, (He.glo_ok X G (c.bx 58))⟩⟩,
  c_BARE_DEEDS := const_ok X G (c.bx 59),
  me_Stack__deed := He.meth_ok (c.bx 60),
  d_Stack__deed := ⟨let ⟨fd, F⟩ := (c.fn_ 24 (d := dA_Stack__deed)); ⟨fd, He5.fun_of F⟩⟩,
  d_done := ⟨let ⟨fd, F⟩ := (c.fn_ 22 (d := dA_done)); ⟨fd, He5.fun_of F, (He.glo_ok X G (c.bx 61))⟩⟩,
  d_asked := ⟨let ⟨fd, F⟩ := (c.fn_ 18 (d := dA_asked)); ⟨fd, He5.fun_of F, (He.glo_ok X G (c.bx 62))⟩⟩,
  d_looks_down := ⟨let ⟨fd, F⟩ := (c.fn_ 13 (d := dA_looks_down)); ⟨fd, He5.fun_of F, (He.glo_ok X G (c.bx 63))⟩⟩,
  c_READ := const_ok X G (c.bx 64),
  d_is_base := ⟨let ⟨fd, F⟩ := (c.fn_ 12 (d := dA_is_base)); ⟨fd, He5.fun_of F, (He.glo_ok X G (c.bx 65))⟩⟩,
  d_kept := ⟨let ⟨fd, F⟩ := (c.fn_ 15 (d := dA_kept)); ⟨fd, He5.fun_of F, (He.glo_ok X G (c.bx 66))⟩⟩,
  d_placed := ⟨let ⟨fd, F⟩ := (c.fn_ 14 (d := dA_placed)); ⟨fd, He5.fun_of F, (He.glo_ok X G (c.bx 67))⟩⟩,
  d_hooked := ⟨let ⟨fd, F⟩ := (c.fn_ 17 (d := dA_hooked)); ⟨fd, He5.fun_of F, (He.glo_ok X G (c.bx 68))⟩⟩,
  c_HOOK := const_ok X G (c.bx 69),
  d_written := ⟨let ⟨fd, F⟩ := (c.fn_ 16 (d := dA_written)); ⟨fd, He5.fun_of F, (He.glo_ok X G (c.bx 70))⟩⟩,
  c_WRITE := const_ok X G (c.bx 71),
  d_seen := ⟨let ⟨fd, F⟩ := (c.fn_ 19 (d := dA_seen)); ⟨fd, He5.fun_of F, (He.glo_ok X G (c.bx 72))⟩⟩,
  d_forgotten := ⟨let ⟨fd, F⟩ := (c.fn_ 21 (d := dA_forgotten)); ⟨fd, He5.fun_of F, (He.glo_ok X G (c.bx 73))⟩⟩,
  c_FORGET := const_ok X G (c.bx 74),
  d_removed := ⟨let ⟨fd, F⟩ := (c.fn_ 20 (d := dA_removed)); ⟨fd, He5.fun_of F, (He.glo_ok X G (c.bx 75))⟩⟩,
  me_Stack_column := He.meth_ok (c.bx 76),
  d_Stack_column := ⟨let ⟨fd, F⟩ := (c.fn_ 23 (d := dA_Stack_column)); ⟨fd, He5.fun_of F⟩⟩,
  cr_Stack := read_ok (c.bx 77),
  cm_Stack_of := met_ok (c.bx 78),
  d_Stack_of := ⟨let ⟨fd, F⟩ := (c.fn_ 26 (d := dA_Stack_of)); ⟨fd, He5.fun_of F⟩⟩,
  ow_Stack___contains__ := own_ok (c.bx 79),
  d_Stack___contains__ := ⟨let ⟨fd, F⟩ := (c.fn_ 27 (d := dA_Stack___contains__)); ⟨fd, He5.fun_of F⟩⟩,
  ow_Stack___setitem__ := own_ok (c.bx 80),
  nq_Stack := (c.bx 81),
  d_Stack___setitem__ := ⟨let ⟨fd, F⟩ := (c.fn_ 28 (d := dA_Stack___setitem__)); ⟨fd, He5.fun_of F⟩⟩,
  ow_Stack___getitem__ := own_ok (c.bx 82),
  fi_Stack___getitem__ := (c.bx 83),
  d_Stack___getitem__ := ⟨let ⟨fd, F⟩ := (c.fn_ 29 (d := dA_Stack___getitem__)); ⟨fd, He5.fun_of F⟩⟩,
  sf_Stack := (c.bx 84),
  ow_Stack___ior__ := own_ok (c.bx 85),
  d_Stack___ior__ := ⟨let ⟨fd, F⟩ := (c.fn_ 31 (d := dA_Stack___ior__)); ⟨fd, He5.fun_of F⟩⟩,
  d_are_pairs := ⟨let ⟨fd, F⟩ := (c.fn_ 30 (d := dA_are_pairs)); ⟨fd, He5.fun_of F, (He.glo_ok X G (c.bx 86))⟩⟩,
  me_Stack_visible := He.meth_ok (c.bx 87),
  d_Stack_visible := ⟨let ⟨fd, F⟩ := (c.fn_ 33 (d := dA_Stack_visible)); ⟨fd, He5.fun_of F⟩⟩,
  me_Stack_held := He.meth_ok (c.bx 88),
  d_Stack_held := ⟨let ⟨fd, F⟩ := (c.fn_ 32 (d := dA_Stack_held)); ⟨fd, He5.fun_of F⟩⟩,
  n_list := He.free_ok X G (c.bx 89),
  me_Stack_forget := He.meth_ok (c.bx 90),
  d_Stack_forget := ⟨let ⟨fd, F⟩ := (c.fn_ 34 (d := dA_Stack_forget)); ⟨fd, He5.fun_of F⟩⟩,
  d__law_alike_right := ⟨let ⟨fd, F⟩ := (c.fn_ 67 (d := dA__law_alike_right)); ⟨fd, He5.fun_of F, (He.glo_ok X G (c.bx 91))⟩⟩,
  d_soonest := ⟨⟨(c.fn_ 49 (d := dA_soonest))⟩, (He.glo_ok X G (c.bx 92))⟩,
  d_count_of_deeds := ⟨let ⟨fd, F⟩ := (c.fn_ 37 (d := dA_count_of_deeds)); ⟨fd, He5.fun_of F, (He.glo_ok X G (c.bx 93))⟩⟩,
  i_Parts := ⟨ty_ok (c.bx 94), fun c0 hc => match c0, hc with | 0, _ => of_decide_eq_true (c.bx 95) | 1, _ => of_decide_eq_true (c.bx 96) | 2, _ => of_decide_eq_true (c.bx 97) | 3, _ => of_decide_eq_true (c.bx 98) | _ + 4, hc => absurd hc (by omega)⟩,
  g_Parts := He.glo_ok X G (c.bx 99),
  ow_Parts___len__ := own_ok (c.bx 100),
  d_Parts___len__ := ⟨let ⟨fd, F⟩ := (c.fn_ 36 (d := dA_Parts___len__)); ⟨fd, He5.fun_of F⟩⟩,
  f_Parts := ⟨clsK_ok (c.bx 11), (show ([("key" : Str), ("deeds" : Str)] : List Str).Nodup from by decide +kernel), (fun f hf => by
    rcases hf with _ | ⟨_, hf⟩
    · exact He.noat_ok (c.bx 101)
    · rcases hf with _ | ⟨_, hf⟩
      · exact He.noat_ok (c.bx 102)
      · cases hf), (show ([("key" : Str), ("deeds" : Str)] : List Str).length < 1000 from by decide)⟩,
  e_Parts := rfl,
  d_alike := ⟨⟨(c.fn_ 48 (d := dA_alike))⟩, (He.glo_ok X G (c.bx 103))⟩,
  d_check_both := ⟨let ⟨fd, F⟩ := (c.fn_ 39 (d := dA_check_both)); ⟨fd, He5.fun_of F, (He.glo_ok X G (c.bx 104))⟩⟩,
  d_check_stack := ⟨let ⟨fd, F⟩ := (c.fn_ 38 (d := dA_check_stack)); ⟨fd, He5.fun_of F, (He.glo_ok X G (c.bx 105))⟩⟩,
  i_Stack := ⟨ty_ok (c.bx 106), fun c0 hc => match c0, hc with | 0, _ => of_decide_eq_true (c.bx 107) | 1, _ => of_decide_eq_true (c.bx 108) | 2, _ => of_decide_eq_true (c.bx 109) | 3, _ => of_decide_eq_true (c.bx 110) | _ + 4, hc => absurd hc (by omega)⟩,
  d_compared := ⟨let ⟨fd, F⟩ := (c.fn_ 44 (d := dA_compared)); ⟨fd, He5.fun_of F, (He.glo_ok X G (c.bx 111))⟩⟩,
  d_pair_after := ⟨let ⟨fd, F⟩ := (c.fn_ 41 (d := dA_pair_after)); ⟨fd, He5.fun_of F, (He.glo_ok X G (c.bx 112))⟩⟩,
  pr_Stack_layers := prop_ok (c.bx 113),
  d_Stack_layers := ⟨let ⟨fd, F⟩ := (c.fn_ 40 (d := dA_Stack_layers)); ⟨fd, He5.fun_of F⟩⟩,
  mk_Parts := He.mkr_ok (c.bx 114),
  d_Parts___init__ := ⟨let ⟨fd, F⟩ := (c.fn_ 42 (d := dA_Parts___init__)); ⟨fd, He5.fun_of F⟩⟩,
  g_Alike := He.glo_ok X G (c.bx 115),
  mk_Alike := He.mkr_ok (c.bx 116),
  d_Alike___init__ := ⟨let ⟨fd, F⟩ := (c.fn_ 43 (d := dA_Alike___init__)); ⟨fd, He5.fun_of F⟩⟩,
  f_Alike := ⟨clsK_ok (c.bx 10), (show ([("pairs" : Str)] : List Str).Nodup from by decide +kernel), (fun f hf => by
    rcases hf with _ | ⟨_, hf⟩
    · exact He.noat_ok (c.bx 117)
    · cases hf), (show ([("pairs" : Str)] : List Str).length < 1000 from by decide)⟩,
  e_Alike := rfl,
  d_first_pairs := ⟨let ⟨fd, F⟩ := (c.fn_ 46 (d := dA_first_pairs)); ⟨fd, He5.fun_of F, (He.glo_ok X G (c.bx 118))⟩⟩,
  n_set := He.free_ok X G (c.bx 119),
  d_unheld_key := ⟨let ⟨fd, F⟩ := (c.fn_ 45 (d := dA_unheld_key)); ⟨fd, He5.fun_of F, (He.glo_ok X G (c.bx 120))⟩⟩,
  d_compared_deeds := ⟨let ⟨fd, F⟩ := (c.fn_ 47 (d := dA_compared_deeds)); ⟨fd, He5.fun_of F, (He.glo_ok X G (c.bx 121))⟩⟩,
  c_OWN_DEEDS := const_ok X G (c.bx 122),
  c_SHARED_DEEDS := const_ok X G (c.bx 123),
  d_is_flat := ⟨⟨(c.fn_ 52 (d := dA_is_flat))⟩, (He.glo_ok X G (c.bx 124))⟩,
  d_flat := ⟨let ⟨fd, F⟩ := (c.fn_ 51 (d := dA_flat)); ⟨fd, He5.fun_of F, (He.glo_ok X G (c.bx 125))⟩⟩,
  cm_Stack_plain := met_ok (c.bx 126),
  d_Stack_plain := ⟨let ⟨fd, F⟩ := (c.fn_ 50 (d := dA_Stack_plain)); ⟨fd, He5.fun_of F⟩⟩,
  c_PLAIN_LAYER := const_ok X G (c.bx 127),
  me_Parts_shows := He.meth_ok (c.bx 128),
  d_Parts_shows := ⟨(c.fn_ 57 (d := dA_Parts_shows))⟩,
  d_can_part := ⟨let ⟨fd, F⟩ := (c.fn_ 54 (d := dA_can_part)); ⟨fd, He5.fun_of F, (He.glo_ok X G (c.bx 129))⟩⟩,
  d_are_deeds := ⟨let ⟨fd, F⟩ := (c.fn_ 53 (d := dA_are_deeds)); ⟨fd, He5.fun_of F, (He.glo_ok X G (c.bx 130))⟩⟩,
  d_last_answer := ⟨let ⟨fd, F⟩ := (c.fn_ 56 (d := dA_last_answer)); ⟨fd, He5.fun_of F, (He.glo_ok X G (c.bx 131))⟩⟩,
  d_done_in_turn := ⟨let ⟨fd, F⟩ := (c.fn_ 55 (d := dA_done_in_turn)); ⟨fd, He5.fun_of F, (He.glo_ok X G (c.bx 132))⟩⟩,
  n_any := He.free_ok X G (c.bx 133),
  me_Alike_shows := He.meth_ok (c.bx 134),
  d_Alike_shows := ⟨(c.fn_ 61 (d := dA_Alike_shows))⟩,
  d_is_pair := ⟨let ⟨fd, F⟩ := (c.fn_ 59 (d := dA_is_pair)); ⟨fd, He5.fun_of F, (He.glo_ok X G (c.bx 135))⟩⟩,
  d_is_column := ⟨let ⟨fd, F⟩ := (c.fn_ 58 (d := dA_is_column)); ⟨fd, He5.fun_of F, (He.glo_ok X G (c.bx 136))⟩⟩,
  d_is_closed := ⟨let ⟨fd, F⟩ := (c.fn_ 60 (d := dA_is_closed)); ⟨fd, He5.fun_of F, (He.glo_ok X G (c.bx 137))⟩⟩,
  f_Fewest := ⟨clsK_ok (c.bx 12), (show ([("kept" : Str), ("pairs" : Str), ("parts" : Str)] : List Str).Nodup from by decide +kernel), (fun f hf => by
    rcases hf with _ | ⟨_, hf⟩
    · exact He.noat_ok (c.bx 138)
    · rcases hf with _ | ⟨_, hf⟩
      · exact He.noat_ok (c.bx 139)
      · rcases hf with _ | ⟨_, hf⟩
        · exact He.noat_ok (c.bx 140)
        · cases hf), (show ([("kept" : Str), ("pairs" : Str), ("parts" : Str)] : List Str).length < 1000 from by decide)⟩,
  e_Fewest := rfl,
  d_fewest := ⟨⟨(c.fn_ 66 (d := dA_fewest))⟩, (He.glo_ok X G (c.bx 141))⟩,
  d_all_choices := ⟨let ⟨fd, F⟩ := (c.fn_ 62 (d := dA_all_choices)); ⟨fd, He5.fun_of F, (He.glo_ok X G (c.bx 142))⟩⟩,
  n_range := He.free_ok X G (c.bx 143),
  me_Stack_chosen := He.meth_ok (c.bx 144),
  d_Stack_chosen := ⟨let ⟨fd, F⟩ := (c.fn_ 64 (d := dA_Stack_chosen)); ⟨fd, He5.fun_of F⟩⟩,
  me_Stack__contents := He.meth_ok (c.bx 145),
  d_Stack__contents := ⟨let ⟨fd, F⟩ := (c.fn_ 63 (d := dA_Stack__contents)); ⟨fd, He5.fun_of F⟩⟩,
  g_Fewest := He.glo_ok X G (c.bx 146),
  mk_Fewest := He.mkr_ok (c.bx 147),
  d_Fewest___init__ := ⟨let ⟨fd, F⟩ := (c.fn_ 65 (d := dA_Fewest___init__)); ⟨fd, He5.fun_of F⟩⟩,
  d__law_fewest_right := ⟨let ⟨fd, F⟩ := (c.fn_ 74 (d := dA__law_fewest_right)); ⟨fd, He5.fun_of F, (He.glo_ok X G (c.bx 148))⟩⟩,
  d_fewest_size := ⟨⟨(c.fn_ 68 (d := dA_fewest_size))⟩, (He.glo_ok X G (c.bx 149))⟩,
  me_Fewest_shows := He.meth_ok (c.bx 150),
  d_Fewest_shows := ⟨(c.fn_ 72 (d := dA_Fewest_shows))⟩,
  d_is_choice := ⟨let ⟨fd, F⟩ := (c.fn_ 69 (d := dA_is_choice)); ⟨fd, He5.fun_of F, (He.glo_ok X G (c.bx 151))⟩⟩,
  d_are_fewer := ⟨let ⟨fd, F⟩ := (c.fn_ 70 (d := dA_are_fewer)); ⟨fd, He5.fun_of F, (He.glo_ok X G (c.bx 152))⟩⟩,
  d_is_parted := ⟨let ⟨fd, F⟩ := (c.fn_ 71 (d := dA_is_parted)); ⟨fd, He5.fun_of F, (He.glo_ok X G (c.bx 153))⟩⟩,
  ow_Stack___eq__ := own_ok (c.bx 154),
  d_Stack___eq__ := ⟨let ⟨fd, F⟩ := (c.fn_ 73 (d := dA_Stack___eq__)); ⟨fd, He5.fun_of F⟩⟩ }
end K6
set_option Elab.async false
set_option autoImplicit false
set_option linter.all false
set_option maxRecDepth 100000
set_option maxHeartbeats 40000000
namespace K6
open PySem L2 Mi
theorem seq_step {A B : Sl → Sto → RS} {σ σ1 : Sl} {S S1 : Sto} (h : A σ S = .ok .nx σ1 S1) : SSeq A B σ S = B σ1 S1 := by
  unfold SSeq
  rw [h]
def isRt (r : RS) : Bool := match r with
  | .ok (.rt (.bl b)) _ _ => b
  | _ => false
def isT (r : R D) : Bool := match r with
  | .ok (.bl b) _ => b
  | _ => false
theorem rt_t {r : RS} (h : isRt r = true) : isT (endD r) = true := by
  cases r with
  | bad => cases h
  | ex c fs σ S => cases h
  | ok f σ S =>
    cases f with
    | rt d => cases d <;> first | exact h | cases h
    | nx => cases h
    | bk => cases h
    | ct => cases h
def u_law_alike_right_s : Sl := [none, none, none, none, none, none, none, none, none, none, none, none, none]
def u_law_alike_right_0 : Sl := [some (.tup [(.str "here"), (.str "here"), (.str "look"), .non]), some (.tup [(.str "both"), (.str "both"), (.str "look"), .non]), none, none, none, none, none, none, none, none, none, none, none]
def S_law_alike_right_0 : Sto := []
theorem st_law_alike_right_0 : b__law_alike_right_0 u_law_alike_right_s [] = .ok .nx u_law_alike_right_0 S_law_alike_right_0 := by kernel_rfl
def u_law_alike_right_1 : Sl := [some (.tup [(.str "here"), (.str "here"), (.str "look"), .non]), some (.tup [(.str "both"), (.str "both"), (.str "look"), .non]), some (.loc 0), some (.loc 8), none, none, none, none, none, none, none, none, none]
def S_law_alike_right_1 : Sto := [(.ins 0 [(.tup [(.tup [(.str "both"), (.str "both"), (.str "look"), .non]), (.tup [(.str "here"), (.str "here"), (.str "look"), .non])]), (.loc 7)]), (.lst [(.bl true), (.bl true)]), (.dct false []), (.lst [(.bl true), (.bl true)]), (.lst []), (.lst []), (.lst []), (.dct false []), (.ins 0 [(.tup [(.tup [(.str "here"), (.str "here"), (.str "look"), .non])]), (.loc 14)]), (.lst [(.bl true)]), (.dct false []), (.lst [(.bl true)]), (.lst []), (.lst []), (.dct false [])]
theorem st_law_alike_right_1 : b__law_alike_right_1 u_law_alike_right_0 S_law_alike_right_0 = .ok .nx u_law_alike_right_1 S_law_alike_right_1 := by kernel_rfl
def u_law_alike_right_2 : Sl := [some (.tup [(.str "here"), (.str "here"), (.str "look"), .non]), some (.tup [(.str "both"), (.str "both"), (.str "look"), .non]), some (.loc 0), some (.loc 8), none, none, none, none, none, none, none, none, none]
def S_law_alike_right_2 : Sto := [(.ins 0 [(.tup [(.tup [(.str "both"), (.str "both"), (.str "look"), .non]), (.tup [(.str "here"), (.str "here"), (.str "look"), .non])]), (.loc 7)]), (.lst [(.bl true), (.bl true)]), (.dct false []), (.lst [(.bl true), (.bl true)]), (.lst []), (.lst []), (.lst []), (.dct false []), (.ins 0 [(.tup [(.tup [(.str "here"), (.str "here"), (.str "look"), .non])]), (.loc 14)]), (.lst [(.bl true)]), (.dct false []), (.lst [(.bl true)]), (.lst []), (.lst []), (.dct false [])]
theorem st_law_alike_right_2 : b__law_alike_right_2 u_law_alike_right_1 S_law_alike_right_1 = .ok .nx u_law_alike_right_2 S_law_alike_right_2 := by kernel_rfl
def u_law_alike_right_3 : Sl := [some (.tup [(.str "here"), (.str "here"), (.str "look"), .non]), some (.tup [(.str "both"), (.str "both"), (.str "look"), .non]), some (.loc 0), some (.loc 8), none, none, none, none, none, none, none, none, none]
def S_law_alike_right_3 : Sto := [(.ins 0 [(.tup [(.tup [(.str "both"), (.str "both"), (.str "look"), .non]), (.tup [(.str "here"), (.str "here"), (.str "look"), .non])]), (.loc 7)]), (.lst [(.bl true), (.bl true)]), (.dct false []), (.lst [(.bl true), (.bl true)]), (.lst []), (.lst []), (.lst []), (.dct false []), (.ins 0 [(.tup [(.tup [(.str "here"), (.str "here"), (.str "look"), .non])]), (.loc 14)]), (.lst [(.bl true)]), (.dct false []), (.lst [(.bl true)]), (.lst []), (.lst []), (.dct false [])]
theorem st_law_alike_right_3 : b__law_alike_right_3 u_law_alike_right_2 S_law_alike_right_2 = .ok .nx u_law_alike_right_3 S_law_alike_right_3 := by kernel_rfl
def u_law_alike_right_4 : Sl := [some (.tup [(.str "here"), (.str "here"), (.str "look"), .non]), some (.tup [(.str "both"), (.str "both"), (.str "look"), .non]), some (.loc 0), some (.loc 8), some (.tup [(.tup [(.str "write"), (.int 0)]), (.tup [(.str "beneath"), (.int 1)]), (.tup [(.str "ask")])]), none, none, none, none, none, none, none, none]
def S_law_alike_right_4 : Sto := [(.ins 0 [(.tup [(.tup [(.str "both"), (.str "both"), (.str "look"), .non]), (.tup [(.str "here"), (.str "here"), (.str "look"), .non])]), (.loc 7)]), (.lst [(.bl true), (.bl true)]), (.dct false []), (.lst [(.bl true), (.bl true)]), (.lst []), (.lst []), (.lst []), (.dct false []), (.ins 0 [(.tup [(.tup [(.str "here"), (.str "here"), (.str "look"), .non])]), (.loc 14)]), (.lst [(.bl true)]), (.dct false []), (.lst [(.bl true)]), (.lst []), (.lst []), (.dct false [])]
theorem st_law_alike_right_4 : b__law_alike_right_4 u_law_alike_right_3 S_law_alike_right_3 = .ok .nx u_law_alike_right_4 S_law_alike_right_4 := by kernel_rfl
def u_law_alike_right_5 : Sl := [some (.tup [(.str "here"), (.str "here"), (.str "look"), .non]), some (.tup [(.str "both"), (.str "both"), (.str "look"), .non]), some (.loc 0), some (.loc 8), some (.tup [(.tup [(.str "write"), (.int 0)]), (.tup [(.str "beneath"), (.int 1)]), (.tup [(.str "ask")])]), some (.loc 15), none, none, none, none, none, none, none]
def S_law_alike_right_5 : Sto := [(.ins 0 [(.tup [(.tup [(.str "both"), (.str "both"), (.str "look"), .non]), (.tup [(.str "here"), (.str "here"), (.str "look"), .non])]), (.loc 7)]), (.lst [(.bl true), (.bl true)]), (.dct false []), (.lst [(.bl true), (.bl true)]), (.lst []), (.lst []), (.lst []), (.dct false []), (.ins 0 [(.tup [(.tup [(.str "here"), (.str "here"), (.str "look"), .non])]), (.loc 14)]), (.lst [(.bl true)]), (.dct false []), (.lst [(.bl true)]), (.lst []), (.lst []), (.dct false []), (.lst [(.tup [(.tup [(.tup [(.str "write"), (.int 0)]), (.tup [(.str "beneath"), (.int 1)]), (.tup [(.str "ask")])]), (.bl true)]), (.tup [(.tup [(.tup [(.str "write"), (.int 0)]), (.tup [(.str "beneath"), (.int 1)])]), (.bl false)]), (.tup [(.tup [(.tup [(.str "beneath"), (.int 1)]), (.tup [(.str "ask")])]), (.bl false)]), (.tup [(.tup [(.tup [(.str "write"), (.int 5)]), (.tup [(.str "beneath"), .non]), (.tup [(.str "has")])]), (.bl true)])])]
theorem st_law_alike_right_5 : b__law_alike_right_5 u_law_alike_right_4 S_law_alike_right_4 = .ok .nx u_law_alike_right_5 S_law_alike_right_5 := by kernel_rfl
def u_law_alike_right_6 : Sl := [some (.tup [(.str "here"), (.str "here"), (.str "look"), .non]), some (.tup [(.str "both"), (.str "both"), (.str "look"), .non]), some (.loc 0), some (.loc 8), some (.tup [(.tup [(.str "write"), (.int 0)]), (.tup [(.str "beneath"), (.int 1)]), (.tup [(.str "ask")])]), some (.loc 17), none, none, none, none, none, none, none]
def S_law_alike_right_6 : Sto := [(.ins 0 [(.tup [(.tup [(.str "both"), (.str "both"), (.str "look"), .non]), (.tup [(.str "here"), (.str "here"), (.str "look"), .non])]), (.loc 7)]), (.lst [(.bl true), (.bl true)]), (.dct false []), (.lst [(.bl true), (.bl true)]), (.lst []), (.lst []), (.lst []), (.dct false []), (.ins 0 [(.tup [(.tup [(.str "here"), (.str "here"), (.str "look"), .non])]), (.loc 14)]), (.lst [(.bl true)]), (.dct false []), (.lst [(.bl true)]), (.lst []), (.lst []), (.dct false []), (.lst [(.tup [(.tup [(.tup [(.str "write"), (.int 0)]), (.tup [(.str "beneath"), (.int 1)]), (.tup [(.str "ask")])]), (.bl true)]), (.tup [(.tup [(.tup [(.str "write"), (.int 0)]), (.tup [(.str "beneath"), (.int 1)])]), (.bl false)]), (.tup [(.tup [(.tup [(.str "beneath"), (.int 1)]), (.tup [(.str "ask")])]), (.bl false)]), (.tup [(.tup [(.tup [(.str "write"), (.int 5)]), (.tup [(.str "beneath"), .non]), (.tup [(.str "has")])]), (.bl true)])]), (.lst [(.tup [(.tup [(.tup [(.str "write"), (.int 5)]), (.tup [(.str "beneath"), (.int 5)]), (.tup [(.str "ask")])]), (.bl false)]), (.tup [(.tup [(.tup [(.str "beneath"), (.int 5)]), (.tup [(.str "ask")])]), (.bl false)]), (.tup [(.tup []), (.bl false)])]), (.lst [(.tup [(.tup [(.tup [(.str "write"), (.int 0)]), (.tup [(.str "beneath"), (.int 1)]), (.tup [(.str "ask")])]), (.bl true)]), (.tup [(.tup [(.tup [(.str "write"), (.int 0)]), (.tup [(.str "beneath"), (.int 1)])]), (.bl false)]), (.tup [(.tup [(.tup [(.str "beneath"), (.int 1)]), (.tup [(.str "ask")])]), (.bl false)]), (.tup [(.tup [(.tup [(.str "write"), (.int 5)]), (.tup [(.str "beneath"), .non]), (.tup [(.str "has")])]), (.bl true)]), (.tup [(.tup [(.tup [(.str "write"), (.int 5)]), (.tup [(.str "beneath"), (.int 5)]), (.tup [(.str "ask")])]), (.bl false)]), (.tup [(.tup [(.tup [(.str "beneath"), (.int 5)]), (.tup [(.str "ask")])]), (.bl false)]), (.tup [(.tup []), (.bl false)])])]
theorem st_law_alike_right_6 : b__law_alike_right_6 u_law_alike_right_5 S_law_alike_right_5 = .ok .nx u_law_alike_right_6 S_law_alike_right_6 := by kernel_rfl
def u_law_alike_right_7 : Sl := [some (.tup [(.str "here"), (.str "here"), (.str "look"), .non]), some (.tup [(.str "both"), (.str "both"), (.str "look"), .non]), some (.loc 0), some (.loc 8), some (.tup [(.tup [(.str "write"), (.int 0)]), (.tup [(.str "beneath"), (.int 1)]), (.tup [(.str "ask")])]), some (.loc 17), none, none, none, none, none, none, none]
def S_law_alike_right_7 : Sto := [(.ins 0 [(.tup [(.tup [(.str "both"), (.str "both"), (.str "look"), .non]), (.tup [(.str "here"), (.str "here"), (.str "look"), .non])]), (.loc 7)]), (.lst [(.bl true), (.bl true)]), (.dct false []), (.lst [(.bl true), (.bl true)]), (.lst []), (.lst []), (.lst []), (.dct false []), (.ins 0 [(.tup [(.tup [(.str "here"), (.str "here"), (.str "look"), .non])]), (.loc 14)]), (.lst [(.bl true)]), (.dct false []), (.lst [(.bl true)]), (.lst []), (.lst []), (.dct false []), (.lst [(.tup [(.tup [(.tup [(.str "write"), (.int 0)]), (.tup [(.str "beneath"), (.int 1)]), (.tup [(.str "ask")])]), (.bl true)]), (.tup [(.tup [(.tup [(.str "write"), (.int 0)]), (.tup [(.str "beneath"), (.int 1)])]), (.bl false)]), (.tup [(.tup [(.tup [(.str "beneath"), (.int 1)]), (.tup [(.str "ask")])]), (.bl false)]), (.tup [(.tup [(.tup [(.str "write"), (.int 5)]), (.tup [(.str "beneath"), .non]), (.tup [(.str "has")])]), (.bl true)])]), (.lst [(.tup [(.tup [(.tup [(.str "write"), (.int 5)]), (.tup [(.str "beneath"), (.int 5)]), (.tup [(.str "ask")])]), (.bl false)]), (.tup [(.tup [(.tup [(.str "beneath"), (.int 5)]), (.tup [(.str "ask")])]), (.bl false)]), (.tup [(.tup []), (.bl false)])]), (.lst [(.tup [(.tup [(.tup [(.str "write"), (.int 0)]), (.tup [(.str "beneath"), (.int 1)]), (.tup [(.str "ask")])]), (.bl true)]), (.tup [(.tup [(.tup [(.str "write"), (.int 0)]), (.tup [(.str "beneath"), (.int 1)])]), (.bl false)]), (.tup [(.tup [(.tup [(.str "beneath"), (.int 1)]), (.tup [(.str "ask")])]), (.bl false)]), (.tup [(.tup [(.tup [(.str "write"), (.int 5)]), (.tup [(.str "beneath"), .non]), (.tup [(.str "has")])]), (.bl true)]), (.tup [(.tup [(.tup [(.str "write"), (.int 5)]), (.tup [(.str "beneath"), (.int 5)]), (.tup [(.str "ask")])]), (.bl false)]), (.tup [(.tup [(.tup [(.str "beneath"), (.int 5)]), (.tup [(.str "ask")])]), (.bl false)]), (.tup [(.tup []), (.bl false)])])]
theorem st_law_alike_right_7 : b__law_alike_right_7 u_law_alike_right_6 S_law_alike_right_6 = .ok .nx u_law_alike_right_7 S_law_alike_right_7 := by kernel_rfl
def u_law_alike_right_8 : Sl := [some (.tup [(.str "here"), (.str "here"), (.str "look"), .non]), some (.tup [(.str "both"), (.str "both"), (.str "look"), .non]), some (.loc 0), some (.loc 8), some (.tup [(.tup [(.str "write"), (.int 0)]), (.tup [(.str "beneath"), (.int 1)]), (.tup [(.str "ask")])]), some (.loc 17), none, none, none, none, none, none, none]
def S_law_alike_right_8 : Sto := [(.ins 0 [(.tup [(.tup [(.str "both"), (.str "both"), (.str "look"), .non]), (.tup [(.str "here"), (.str "here"), (.str "look"), .non])]), (.loc 7)]), (.lst [(.bl true), (.bl true)]), (.dct false []), (.lst [(.bl true), (.bl true)]), (.lst []), (.lst []), (.lst []), (.dct false []), (.ins 0 [(.tup [(.tup [(.str "here"), (.str "here"), (.str "look"), .non])]), (.loc 14)]), (.lst [(.bl true)]), (.dct false []), (.lst [(.bl true)]), (.lst []), (.lst []), (.dct false []), (.lst [(.tup [(.tup [(.tup [(.str "write"), (.int 0)]), (.tup [(.str "beneath"), (.int 1)]), (.tup [(.str "ask")])]), (.bl true)]), (.tup [(.tup [(.tup [(.str "write"), (.int 0)]), (.tup [(.str "beneath"), (.int 1)])]), (.bl false)]), (.tup [(.tup [(.tup [(.str "beneath"), (.int 1)]), (.tup [(.str "ask")])]), (.bl false)]), (.tup [(.tup [(.tup [(.str "write"), (.int 5)]), (.tup [(.str "beneath"), .non]), (.tup [(.str "has")])]), (.bl true)])]), (.lst [(.tup [(.tup [(.tup [(.str "write"), (.int 5)]), (.tup [(.str "beneath"), (.int 5)]), (.tup [(.str "ask")])]), (.bl false)]), (.tup [(.tup [(.tup [(.str "beneath"), (.int 5)]), (.tup [(.str "ask")])]), (.bl false)]), (.tup [(.tup []), (.bl false)])]), (.lst [(.tup [(.tup [(.tup [(.str "write"), (.int 0)]), (.tup [(.str "beneath"), (.int 1)]), (.tup [(.str "ask")])]), (.bl true)]), (.tup [(.tup [(.tup [(.str "write"), (.int 0)]), (.tup [(.str "beneath"), (.int 1)])]), (.bl false)]), (.tup [(.tup [(.tup [(.str "beneath"), (.int 1)]), (.tup [(.str "ask")])]), (.bl false)]), (.tup [(.tup [(.tup [(.str "write"), (.int 5)]), (.tup [(.str "beneath"), .non]), (.tup [(.str "has")])]), (.bl true)]), (.tup [(.tup [(.tup [(.str "write"), (.int 5)]), (.tup [(.str "beneath"), (.int 5)]), (.tup [(.str "ask")])]), (.bl false)]), (.tup [(.tup [(.tup [(.str "beneath"), (.int 5)]), (.tup [(.str "ask")])]), (.bl false)]), (.tup [(.tup []), (.bl false)])])]
theorem st_law_alike_right_8 : b__law_alike_right_8 u_law_alike_right_7 S_law_alike_right_7 = .ok .nx u_law_alike_right_8 S_law_alike_right_8 := by kernel_rfl
def u_law_alike_right_9 : Sl := [some (.tup [(.str "here"), (.str "here"), (.str "look"), .non]), some (.tup [(.str "both"), (.str "both"), (.str "look"), .non]), some (.loc 0), some (.loc 8), some (.tup [(.tup [(.str "write"), (.int 0)]), (.tup [(.str "beneath"), (.int 1)]), (.tup [(.str "ask")])]), some (.loc 17), some (.loc 18), none, none, none, none, none, none]
def S_law_alike_right_9 : Sto := [(.ins 0 [(.tup [(.tup [(.str "both"), (.str "both"), (.str "look"), .non]), (.tup [(.str "here"), (.str "here"), (.str "look"), .non])]), (.loc 7)]), (.lst [(.bl true), (.bl true)]), (.dct false []), (.lst [(.bl true), (.bl true)]), (.lst []), (.lst []), (.lst []), (.dct false []), (.ins 0 [(.tup [(.tup [(.str "here"), (.str "here"), (.str "look"), .non])]), (.loc 14)]), (.lst [(.bl true)]), (.dct false []), (.lst [(.bl true)]), (.lst []), (.lst []), (.dct false []), (.lst [(.tup [(.tup [(.tup [(.str "write"), (.int 0)]), (.tup [(.str "beneath"), (.int 1)]), (.tup [(.str "ask")])]), (.bl true)]), (.tup [(.tup [(.tup [(.str "write"), (.int 0)]), (.tup [(.str "beneath"), (.int 1)])]), (.bl false)]), (.tup [(.tup [(.tup [(.str "beneath"), (.int 1)]), (.tup [(.str "ask")])]), (.bl false)]), (.tup [(.tup [(.tup [(.str "write"), (.int 5)]), (.tup [(.str "beneath"), .non]), (.tup [(.str "has")])]), (.bl true)])]), (.lst [(.tup [(.tup [(.tup [(.str "write"), (.int 5)]), (.tup [(.str "beneath"), (.int 5)]), (.tup [(.str "ask")])]), (.bl false)]), (.tup [(.tup [(.tup [(.str "beneath"), (.int 5)]), (.tup [(.str "ask")])]), (.bl false)]), (.tup [(.tup []), (.bl false)])]), (.lst [(.tup [(.tup [(.tup [(.str "write"), (.int 0)]), (.tup [(.str "beneath"), (.int 1)]), (.tup [(.str "ask")])]), (.bl true)]), (.tup [(.tup [(.tup [(.str "write"), (.int 0)]), (.tup [(.str "beneath"), (.int 1)])]), (.bl false)]), (.tup [(.tup [(.tup [(.str "beneath"), (.int 1)]), (.tup [(.str "ask")])]), (.bl false)]), (.tup [(.tup [(.tup [(.str "write"), (.int 5)]), (.tup [(.str "beneath"), .non]), (.tup [(.str "has")])]), (.bl true)]), (.tup [(.tup [(.tup [(.str "write"), (.int 5)]), (.tup [(.str "beneath"), (.int 5)]), (.tup [(.str "ask")])]), (.bl false)]), (.tup [(.tup [(.tup [(.str "beneath"), (.int 5)]), (.tup [(.str "ask")])]), (.bl false)]), (.tup [(.tup []), (.bl false)])]), (.lst [(.tup [(.tup [.non, .non]), (.tup [.non])]), (.tup [(.tup [(.int 0), (.int 0)]), (.tup [(.int 0)])]), (.tup [(.tup [(.int 1), (.int 1)]), (.tup [(.int 1)])])])]
theorem st_law_alike_right_9 : b__law_alike_right_9 u_law_alike_right_8 S_law_alike_right_8 = .ok .nx u_law_alike_right_9 S_law_alike_right_9 := by kernel_rfl
def u_law_alike_right_10 : Sl := [some (.tup [(.str "here"), (.str "here"), (.str "look"), .non]), some (.tup [(.str "both"), (.str "both"), (.str "look"), .non]), some (.loc 0), some (.loc 8), some (.tup [(.tup [(.str "write"), (.int 0)]), (.tup [(.str "beneath"), (.int 1)]), (.tup [(.str "ask")])]), some (.loc 17), some (.loc 18), some (.loc 26), none, none, none, none, none]
def S_law_alike_right_10 : Sto := [(.ins 0 [(.tup [(.tup [(.str "both"), (.str "both"), (.str "look"), .non]), (.tup [(.str "here"), (.str "here"), (.str "look"), .non])]), (.loc 7)]), (.lst [(.bl true), (.bl true)]), (.dct false []), (.lst [(.bl true), (.bl true)]), (.lst []), (.lst []), (.lst []), (.dct false []), (.ins 0 [(.tup [(.tup [(.str "here"), (.str "here"), (.str "look"), .non])]), (.loc 14)]), (.lst [(.bl true)]), (.dct false []), (.lst [(.bl true)]), (.lst []), (.lst []), (.dct false []), (.lst [(.tup [(.tup [(.tup [(.str "write"), (.int 0)]), (.tup [(.str "beneath"), (.int 1)]), (.tup [(.str "ask")])]), (.bl true)]), (.tup [(.tup [(.tup [(.str "write"), (.int 0)]), (.tup [(.str "beneath"), (.int 1)])]), (.bl false)]), (.tup [(.tup [(.tup [(.str "beneath"), (.int 1)]), (.tup [(.str "ask")])]), (.bl false)]), (.tup [(.tup [(.tup [(.str "write"), (.int 5)]), (.tup [(.str "beneath"), .non]), (.tup [(.str "has")])]), (.bl true)])]), (.lst [(.tup [(.tup [(.tup [(.str "write"), (.int 5)]), (.tup [(.str "beneath"), (.int 5)]), (.tup [(.str "ask")])]), (.bl false)]), (.tup [(.tup [(.tup [(.str "beneath"), (.int 5)]), (.tup [(.str "ask")])]), (.bl false)]), (.tup [(.tup []), (.bl false)])]), (.lst [(.tup [(.tup [(.tup [(.str "write"), (.int 0)]), (.tup [(.str "beneath"), (.int 1)]), (.tup [(.str "ask")])]), (.bl true)]), (.tup [(.tup [(.tup [(.str "write"), (.int 0)]), (.tup [(.str "beneath"), (.int 1)])]), (.bl false)]), (.tup [(.tup [(.tup [(.str "beneath"), (.int 1)]), (.tup [(.str "ask")])]), (.bl false)]), (.tup [(.tup [(.tup [(.str "write"), (.int 5)]), (.tup [(.str "beneath"), .non]), (.tup [(.str "has")])]), (.bl true)]), (.tup [(.tup [(.tup [(.str "write"), (.int 5)]), (.tup [(.str "beneath"), (.int 5)]), (.tup [(.str "ask")])]), (.bl false)]), (.tup [(.tup [(.tup [(.str "beneath"), (.int 5)]), (.tup [(.str "ask")])]), (.bl false)]), (.tup [(.tup []), (.bl false)])]), (.lst [(.tup [(.tup [.non, .non]), (.tup [.non])]), (.tup [(.tup [(.int 0), (.int 0)]), (.tup [(.int 0)])]), (.tup [(.tup [(.int 1), (.int 1)]), (.tup [(.int 1)])])]), (.lst [(.tup [(.tup [(.int 1), (.int 1)]), (.tup [(.int 1)])]), (.tup [(.tup [(.int 0), (.int 0)]), (.tup [(.int 0)])]), (.tup [(.tup [.non, .non]), (.tup [.non])])]), (.lst [(.tup [(.tup [(.int 0), (.int 0)]), (.tup [(.int 0)])]), (.tup [(.tup [(.int 1), (.int 1)]), (.tup [(.int 1)])])]), (.lst [(.tup [(.tup [.non, .non]), (.tup [.non])]), (.tup [(.tup [(.int 0), (.int 0)]), (.tup [(.int 0)])])]), (.lst [(.tup [(.tup [(.int 0), .non]), (.tup [(.int 0)])])]), (.lst [(.tup [(.tup [.non, .non]), (.tup [.non])]), (.tup [(.tup [(.int 0), (.int 0)]), (.tup [(.int 0)])]), (.tup [(.tup [(.int 1), (.int 1)]), (.tup [(.int 1)])]), (.tup [(.tup [(.int 0), .non]), (.tup [(.int 0)])])]), (.lst [(.tup [(.tup [(.int 0), (.int 1)]), (.tup [(.int 1)])])]), (.lst [(.tup [(.tup [.non, .non]), (.tup [.non])]), (.tup [(.tup [(.int 0), (.int 0)]), (.tup [(.int 0)])]), (.tup [(.tup [(.int 1), (.int 1)]), (.tup [(.int 1)])]), (.tup [(.tup [(.int 0), (.int 1)]), (.tup [(.int 1)])])]), (.lst [(.loc 18), (.loc 19), (.loc 20), (.loc 21), (.loc 23), (.loc 25)])]
theorem st_law_alike_right_10 : b__law_alike_right_10 u_law_alike_right_9 S_law_alike_right_9 = .ok .nx u_law_alike_right_10 S_law_alike_right_10 := by kernel_rfl
def u_law_alike_right_11 : Sl := [some (.tup [(.str "here"), (.str "here"), (.str "look"), .non]), some (.tup [(.str "both"), (.str "both"), (.str "look"), .non]), some (.loc 0), some (.loc 8), some (.tup [(.tup [(.str "write"), (.int 0)]), (.tup [(.str "beneath"), (.int 1)]), (.tup [(.str "ask")])]), some (.loc 17), some (.loc 18), some (.loc 26), none, none, none, none, none]
def S_law_alike_right_11 : Sto := [(.ins 0 [(.tup [(.tup [(.str "both"), (.str "both"), (.str "look"), .non]), (.tup [(.str "here"), (.str "here"), (.str "look"), .non])]), (.loc 7)]), (.lst [(.bl true), (.bl true)]), (.dct false []), (.lst [(.bl true), (.bl true)]), (.lst []), (.lst []), (.lst []), (.dct false []), (.ins 0 [(.tup [(.tup [(.str "here"), (.str "here"), (.str "look"), .non])]), (.loc 14)]), (.lst [(.bl true)]), (.dct false []), (.lst [(.bl true)]), (.lst []), (.lst []), (.dct false []), (.lst [(.tup [(.tup [(.tup [(.str "write"), (.int 0)]), (.tup [(.str "beneath"), (.int 1)]), (.tup [(.str "ask")])]), (.bl true)]), (.tup [(.tup [(.tup [(.str "write"), (.int 0)]), (.tup [(.str "beneath"), (.int 1)])]), (.bl false)]), (.tup [(.tup [(.tup [(.str "beneath"), (.int 1)]), (.tup [(.str "ask")])]), (.bl false)]), (.tup [(.tup [(.tup [(.str "write"), (.int 5)]), (.tup [(.str "beneath"), .non]), (.tup [(.str "has")])]), (.bl true)])]), (.lst [(.tup [(.tup [(.tup [(.str "write"), (.int 5)]), (.tup [(.str "beneath"), (.int 5)]), (.tup [(.str "ask")])]), (.bl false)]), (.tup [(.tup [(.tup [(.str "beneath"), (.int 5)]), (.tup [(.str "ask")])]), (.bl false)]), (.tup [(.tup []), (.bl false)])]), (.lst [(.tup [(.tup [(.tup [(.str "write"), (.int 0)]), (.tup [(.str "beneath"), (.int 1)]), (.tup [(.str "ask")])]), (.bl true)]), (.tup [(.tup [(.tup [(.str "write"), (.int 0)]), (.tup [(.str "beneath"), (.int 1)])]), (.bl false)]), (.tup [(.tup [(.tup [(.str "beneath"), (.int 1)]), (.tup [(.str "ask")])]), (.bl false)]), (.tup [(.tup [(.tup [(.str "write"), (.int 5)]), (.tup [(.str "beneath"), .non]), (.tup [(.str "has")])]), (.bl true)]), (.tup [(.tup [(.tup [(.str "write"), (.int 5)]), (.tup [(.str "beneath"), (.int 5)]), (.tup [(.str "ask")])]), (.bl false)]), (.tup [(.tup [(.tup [(.str "beneath"), (.int 5)]), (.tup [(.str "ask")])]), (.bl false)]), (.tup [(.tup []), (.bl false)])]), (.lst [(.tup [(.tup [.non, .non]), (.tup [.non])]), (.tup [(.tup [(.int 0), (.int 0)]), (.tup [(.int 0)])]), (.tup [(.tup [(.int 1), (.int 1)]), (.tup [(.int 1)])])]), (.lst [(.tup [(.tup [(.int 1), (.int 1)]), (.tup [(.int 1)])]), (.tup [(.tup [(.int 0), (.int 0)]), (.tup [(.int 0)])]), (.tup [(.tup [.non, .non]), (.tup [.non])])]), (.lst [(.tup [(.tup [(.int 0), (.int 0)]), (.tup [(.int 0)])]), (.tup [(.tup [(.int 1), (.int 1)]), (.tup [(.int 1)])])]), (.lst [(.tup [(.tup [.non, .non]), (.tup [.non])]), (.tup [(.tup [(.int 0), (.int 0)]), (.tup [(.int 0)])])]), (.lst [(.tup [(.tup [(.int 0), .non]), (.tup [(.int 0)])])]), (.lst [(.tup [(.tup [.non, .non]), (.tup [.non])]), (.tup [(.tup [(.int 0), (.int 0)]), (.tup [(.int 0)])]), (.tup [(.tup [(.int 1), (.int 1)]), (.tup [(.int 1)])]), (.tup [(.tup [(.int 0), .non]), (.tup [(.int 0)])])]), (.lst [(.tup [(.tup [(.int 0), (.int 1)]), (.tup [(.int 1)])])]), (.lst [(.tup [(.tup [.non, .non]), (.tup [.non])]), (.tup [(.tup [(.int 0), (.int 0)]), (.tup [(.int 0)])]), (.tup [(.tup [(.int 1), (.int 1)]), (.tup [(.int 1)])]), (.tup [(.tup [(.int 0), (.int 1)]), (.tup [(.int 1)])])]), (.lst [(.loc 18), (.loc 19), (.loc 20), (.loc 21), (.loc 23), (.loc 25), (.loc 28)]), (.lst [(.tup [(.tup [(.int 7), (.int 7)]), (.tup [(.int 7)])])]), (.lst [(.tup [(.tup [.non, .non]), (.tup [.non])]), (.tup [(.tup [(.int 0), (.int 0)]), (.tup [(.int 0)])]), (.tup [(.tup [(.int 1), (.int 1)]), (.tup [(.int 1)])]), (.tup [(.tup [(.int 7), (.int 7)]), (.tup [(.int 7)])])])]
theorem st_law_alike_right_11 : b__law_alike_right_11 u_law_alike_right_10 S_law_alike_right_10 = .ok .nx u_law_alike_right_11 S_law_alike_right_11 := by kernel_rfl
def u_law_alike_right_12 : Sl := [some (.tup [(.str "here"), (.str "here"), (.str "look"), .non]), some (.tup [(.str "both"), (.str "both"), (.str "look"), .non]), some (.loc 0), some (.loc 8), some (.tup [(.tup [(.str "write"), (.int 0)]), (.tup [(.str "beneath"), (.int 1)]), (.tup [(.str "ask")])]), some (.loc 17), some (.loc 18), some (.loc 26), some (.loc 29), none, none, none, none]
def S_law_alike_right_12 : Sto := [(.ins 0 [(.tup [(.tup [(.str "both"), (.str "both"), (.str "look"), .non]), (.tup [(.str "here"), (.str "here"), (.str "look"), .non])]), (.loc 7)]), (.lst [(.bl true), (.bl true)]), (.dct false []), (.lst [(.bl true), (.bl true)]), (.lst []), (.lst []), (.lst []), (.dct false []), (.ins 0 [(.tup [(.tup [(.str "here"), (.str "here"), (.str "look"), .non])]), (.loc 14)]), (.lst [(.bl true)]), (.dct false []), (.lst [(.bl true)]), (.lst []), (.lst []), (.dct false []), (.lst [(.tup [(.tup [(.tup [(.str "write"), (.int 0)]), (.tup [(.str "beneath"), (.int 1)]), (.tup [(.str "ask")])]), (.bl true)]), (.tup [(.tup [(.tup [(.str "write"), (.int 0)]), (.tup [(.str "beneath"), (.int 1)])]), (.bl false)]), (.tup [(.tup [(.tup [(.str "beneath"), (.int 1)]), (.tup [(.str "ask")])]), (.bl false)]), (.tup [(.tup [(.tup [(.str "write"), (.int 5)]), (.tup [(.str "beneath"), .non]), (.tup [(.str "has")])]), (.bl true)])]), (.lst [(.tup [(.tup [(.tup [(.str "write"), (.int 5)]), (.tup [(.str "beneath"), (.int 5)]), (.tup [(.str "ask")])]), (.bl false)]), (.tup [(.tup [(.tup [(.str "beneath"), (.int 5)]), (.tup [(.str "ask")])]), (.bl false)]), (.tup [(.tup []), (.bl false)])]), (.lst [(.tup [(.tup [(.tup [(.str "write"), (.int 0)]), (.tup [(.str "beneath"), (.int 1)]), (.tup [(.str "ask")])]), (.bl true)]), (.tup [(.tup [(.tup [(.str "write"), (.int 0)]), (.tup [(.str "beneath"), (.int 1)])]), (.bl false)]), (.tup [(.tup [(.tup [(.str "beneath"), (.int 1)]), (.tup [(.str "ask")])]), (.bl false)]), (.tup [(.tup [(.tup [(.str "write"), (.int 5)]), (.tup [(.str "beneath"), .non]), (.tup [(.str "has")])]), (.bl true)]), (.tup [(.tup [(.tup [(.str "write"), (.int 5)]), (.tup [(.str "beneath"), (.int 5)]), (.tup [(.str "ask")])]), (.bl false)]), (.tup [(.tup [(.tup [(.str "beneath"), (.int 5)]), (.tup [(.str "ask")])]), (.bl false)]), (.tup [(.tup []), (.bl false)])]), (.lst [(.tup [(.tup [.non, .non]), (.tup [.non])]), (.tup [(.tup [(.int 0), (.int 0)]), (.tup [(.int 0)])]), (.tup [(.tup [(.int 1), (.int 1)]), (.tup [(.int 1)])])]), (.lst [(.tup [(.tup [(.int 1), (.int 1)]), (.tup [(.int 1)])]), (.tup [(.tup [(.int 0), (.int 0)]), (.tup [(.int 0)])]), (.tup [(.tup [.non, .non]), (.tup [.non])])]), (.lst [(.tup [(.tup [(.int 0), (.int 0)]), (.tup [(.int 0)])]), (.tup [(.tup [(.int 1), (.int 1)]), (.tup [(.int 1)])])]), (.lst [(.tup [(.tup [.non, .non]), (.tup [.non])]), (.tup [(.tup [(.int 0), (.int 0)]), (.tup [(.int 0)])])]), (.lst [(.tup [(.tup [(.int 0), .non]), (.tup [(.int 0)])])]), (.lst [(.tup [(.tup [.non, .non]), (.tup [.non])]), (.tup [(.tup [(.int 0), (.int 0)]), (.tup [(.int 0)])]), (.tup [(.tup [(.int 1), (.int 1)]), (.tup [(.int 1)])]), (.tup [(.tup [(.int 0), .non]), (.tup [(.int 0)])])]), (.lst [(.tup [(.tup [(.int 0), (.int 1)]), (.tup [(.int 1)])])]), (.lst [(.tup [(.tup [.non, .non]), (.tup [.non])]), (.tup [(.tup [(.int 0), (.int 0)]), (.tup [(.int 0)])]), (.tup [(.tup [(.int 1), (.int 1)]), (.tup [(.int 1)])]), (.tup [(.tup [(.int 0), (.int 1)]), (.tup [(.int 1)])])]), (.lst [(.loc 18), (.loc 19), (.loc 20), (.loc 21), (.loc 23), (.loc 25), (.loc 28)]), (.lst [(.tup [(.tup [(.int 7), (.int 7)]), (.tup [(.int 7)])])]), (.lst [(.tup [(.tup [.non, .non]), (.tup [.non])]), (.tup [(.tup [(.int 0), (.int 0)]), (.tup [(.int 0)])]), (.tup [(.tup [(.int 1), (.int 1)]), (.tup [(.int 1)])]), (.tup [(.tup [(.int 7), (.int 7)]), (.tup [(.int 7)])])]), (.lst [(.bl true), (.bl true), (.bl false), (.bl false), (.bl true), (.bl false), (.bl true)])]
theorem st_law_alike_right_12 : b__law_alike_right_12 u_law_alike_right_11 S_law_alike_right_11 = .ok .nx u_law_alike_right_12 S_law_alike_right_12 := by kernel_rfl
def u_law_alike_right_13 : Sl := [some (.tup [(.str "here"), (.str "here"), (.str "look"), .non]), some (.tup [(.str "both"), (.str "both"), (.str "look"), .non]), some (.loc 0), some (.loc 8), some (.tup [(.tup [(.str "write"), (.int 0)]), (.tup [(.str "beneath"), (.int 1)]), (.tup [(.str "ask")])]), some (.loc 17), some (.loc 18), some (.loc 26), some (.loc 29), none, none, none, none]
def S_law_alike_right_13 : Sto := [(.ins 0 [(.tup [(.tup [(.str "both"), (.str "both"), (.str "look"), .non]), (.tup [(.str "here"), (.str "here"), (.str "look"), .non])]), (.loc 7)]), (.lst [(.bl true), (.bl true)]), (.dct false []), (.lst [(.bl true), (.bl true)]), (.lst []), (.lst []), (.lst []), (.dct false []), (.ins 0 [(.tup [(.tup [(.str "here"), (.str "here"), (.str "look"), .non])]), (.loc 14)]), (.lst [(.bl true)]), (.dct false []), (.lst [(.bl true)]), (.lst []), (.lst []), (.dct false []), (.lst [(.tup [(.tup [(.tup [(.str "write"), (.int 0)]), (.tup [(.str "beneath"), (.int 1)]), (.tup [(.str "ask")])]), (.bl true)]), (.tup [(.tup [(.tup [(.str "write"), (.int 0)]), (.tup [(.str "beneath"), (.int 1)])]), (.bl false)]), (.tup [(.tup [(.tup [(.str "beneath"), (.int 1)]), (.tup [(.str "ask")])]), (.bl false)]), (.tup [(.tup [(.tup [(.str "write"), (.int 5)]), (.tup [(.str "beneath"), .non]), (.tup [(.str "has")])]), (.bl true)])]), (.lst [(.tup [(.tup [(.tup [(.str "write"), (.int 5)]), (.tup [(.str "beneath"), (.int 5)]), (.tup [(.str "ask")])]), (.bl false)]), (.tup [(.tup [(.tup [(.str "beneath"), (.int 5)]), (.tup [(.str "ask")])]), (.bl false)]), (.tup [(.tup []), (.bl false)])]), (.lst [(.tup [(.tup [(.tup [(.str "write"), (.int 0)]), (.tup [(.str "beneath"), (.int 1)]), (.tup [(.str "ask")])]), (.bl true)]), (.tup [(.tup [(.tup [(.str "write"), (.int 0)]), (.tup [(.str "beneath"), (.int 1)])]), (.bl false)]), (.tup [(.tup [(.tup [(.str "beneath"), (.int 1)]), (.tup [(.str "ask")])]), (.bl false)]), (.tup [(.tup [(.tup [(.str "write"), (.int 5)]), (.tup [(.str "beneath"), .non]), (.tup [(.str "has")])]), (.bl true)]), (.tup [(.tup [(.tup [(.str "write"), (.int 5)]), (.tup [(.str "beneath"), (.int 5)]), (.tup [(.str "ask")])]), (.bl false)]), (.tup [(.tup [(.tup [(.str "beneath"), (.int 5)]), (.tup [(.str "ask")])]), (.bl false)]), (.tup [(.tup []), (.bl false)])]), (.lst [(.tup [(.tup [.non, .non]), (.tup [.non])]), (.tup [(.tup [(.int 0), (.int 0)]), (.tup [(.int 0)])]), (.tup [(.tup [(.int 1), (.int 1)]), (.tup [(.int 1)])])]), (.lst [(.tup [(.tup [(.int 1), (.int 1)]), (.tup [(.int 1)])]), (.tup [(.tup [(.int 0), (.int 0)]), (.tup [(.int 0)])]), (.tup [(.tup [.non, .non]), (.tup [.non])])]), (.lst [(.tup [(.tup [(.int 0), (.int 0)]), (.tup [(.int 0)])]), (.tup [(.tup [(.int 1), (.int 1)]), (.tup [(.int 1)])])]), (.lst [(.tup [(.tup [.non, .non]), (.tup [.non])]), (.tup [(.tup [(.int 0), (.int 0)]), (.tup [(.int 0)])])]), (.lst [(.tup [(.tup [(.int 0), .non]), (.tup [(.int 0)])])]), (.lst [(.tup [(.tup [.non, .non]), (.tup [.non])]), (.tup [(.tup [(.int 0), (.int 0)]), (.tup [(.int 0)])]), (.tup [(.tup [(.int 1), (.int 1)]), (.tup [(.int 1)])]), (.tup [(.tup [(.int 0), .non]), (.tup [(.int 0)])])]), (.lst [(.tup [(.tup [(.int 0), (.int 1)]), (.tup [(.int 1)])])]), (.lst [(.tup [(.tup [.non, .non]), (.tup [.non])]), (.tup [(.tup [(.int 0), (.int 0)]), (.tup [(.int 0)])]), (.tup [(.tup [(.int 1), (.int 1)]), (.tup [(.int 1)])]), (.tup [(.tup [(.int 0), (.int 1)]), (.tup [(.int 1)])])]), (.lst [(.loc 18), (.loc 19), (.loc 20), (.loc 21), (.loc 23), (.loc 25), (.loc 28)]), (.lst [(.tup [(.tup [(.int 7), (.int 7)]), (.tup [(.int 7)])])]), (.lst [(.tup [(.tup [.non, .non]), (.tup [.non])]), (.tup [(.tup [(.int 0), (.int 0)]), (.tup [(.int 0)])]), (.tup [(.tup [(.int 1), (.int 1)]), (.tup [(.int 1)])]), (.tup [(.tup [(.int 7), (.int 7)]), (.tup [(.int 7)])])]), (.lst [(.bl true), (.bl true), (.bl false), (.bl false), (.bl true), (.bl false), (.bl true)]), (.lst [(.bl true), (.bl true), (.bl false), (.bl false), (.bl true), (.bl false), (.bl true)])]
theorem st_law_alike_right_13 : b__law_alike_right_13 u_law_alike_right_12 S_law_alike_right_12 = .ok .nx u_law_alike_right_13 S_law_alike_right_13 := by kernel_rfl
def u_law_alike_right_14 : Sl := [some (.tup [(.str "here"), (.str "here"), (.str "look"), .non]), some (.tup [(.str "both"), (.str "both"), (.str "look"), .non]), some (.loc 0), some (.loc 8), some (.tup [(.tup [(.str "write"), (.int 0)]), (.tup [(.str "beneath"), (.int 1)]), (.tup [(.str "ask")])]), some (.loc 17), some (.loc 18), some (.loc 26), some (.loc 29), some (.loc 31), none, none, none]
def S_law_alike_right_14 : Sto := [(.ins 0 [(.tup [(.tup [(.str "both"), (.str "both"), (.str "look"), .non]), (.tup [(.str "here"), (.str "here"), (.str "look"), .non])]), (.loc 7)]), (.lst [(.bl true), (.bl true)]), (.dct false []), (.lst [(.bl true), (.bl true)]), (.lst []), (.lst []), (.lst []), (.dct false []), (.ins 0 [(.tup [(.tup [(.str "here"), (.str "here"), (.str "look"), .non])]), (.loc 14)]), (.lst [(.bl true)]), (.dct false []), (.lst [(.bl true)]), (.lst []), (.lst []), (.dct false []), (.lst [(.tup [(.tup [(.tup [(.str "write"), (.int 0)]), (.tup [(.str "beneath"), (.int 1)]), (.tup [(.str "ask")])]), (.bl true)]), (.tup [(.tup [(.tup [(.str "write"), (.int 0)]), (.tup [(.str "beneath"), (.int 1)])]), (.bl false)]), (.tup [(.tup [(.tup [(.str "beneath"), (.int 1)]), (.tup [(.str "ask")])]), (.bl false)]), (.tup [(.tup [(.tup [(.str "write"), (.int 5)]), (.tup [(.str "beneath"), .non]), (.tup [(.str "has")])]), (.bl true)])]), (.lst [(.tup [(.tup [(.tup [(.str "write"), (.int 5)]), (.tup [(.str "beneath"), (.int 5)]), (.tup [(.str "ask")])]), (.bl false)]), (.tup [(.tup [(.tup [(.str "beneath"), (.int 5)]), (.tup [(.str "ask")])]), (.bl false)]), (.tup [(.tup []), (.bl false)])]), (.lst [(.tup [(.tup [(.tup [(.str "write"), (.int 0)]), (.tup [(.str "beneath"), (.int 1)]), (.tup [(.str "ask")])]), (.bl true)]), (.tup [(.tup [(.tup [(.str "write"), (.int 0)]), (.tup [(.str "beneath"), (.int 1)])]), (.bl false)]), (.tup [(.tup [(.tup [(.str "beneath"), (.int 1)]), (.tup [(.str "ask")])]), (.bl false)]), (.tup [(.tup [(.tup [(.str "write"), (.int 5)]), (.tup [(.str "beneath"), .non]), (.tup [(.str "has")])]), (.bl true)]), (.tup [(.tup [(.tup [(.str "write"), (.int 5)]), (.tup [(.str "beneath"), (.int 5)]), (.tup [(.str "ask")])]), (.bl false)]), (.tup [(.tup [(.tup [(.str "beneath"), (.int 5)]), (.tup [(.str "ask")])]), (.bl false)]), (.tup [(.tup []), (.bl false)])]), (.lst [(.tup [(.tup [.non, .non]), (.tup [.non])]), (.tup [(.tup [(.int 0), (.int 0)]), (.tup [(.int 0)])]), (.tup [(.tup [(.int 1), (.int 1)]), (.tup [(.int 1)])])]), (.lst [(.tup [(.tup [(.int 1), (.int 1)]), (.tup [(.int 1)])]), (.tup [(.tup [(.int 0), (.int 0)]), (.tup [(.int 0)])]), (.tup [(.tup [.non, .non]), (.tup [.non])])]), (.lst [(.tup [(.tup [(.int 0), (.int 0)]), (.tup [(.int 0)])]), (.tup [(.tup [(.int 1), (.int 1)]), (.tup [(.int 1)])])]), (.lst [(.tup [(.tup [.non, .non]), (.tup [.non])]), (.tup [(.tup [(.int 0), (.int 0)]), (.tup [(.int 0)])])]), (.lst [(.tup [(.tup [(.int 0), .non]), (.tup [(.int 0)])])]), (.lst [(.tup [(.tup [.non, .non]), (.tup [.non])]), (.tup [(.tup [(.int 0), (.int 0)]), (.tup [(.int 0)])]), (.tup [(.tup [(.int 1), (.int 1)]), (.tup [(.int 1)])]), (.tup [(.tup [(.int 0), .non]), (.tup [(.int 0)])])]), (.lst [(.tup [(.tup [(.int 0), (.int 1)]), (.tup [(.int 1)])])]), (.lst [(.tup [(.tup [.non, .non]), (.tup [.non])]), (.tup [(.tup [(.int 0), (.int 0)]), (.tup [(.int 0)])]), (.tup [(.tup [(.int 1), (.int 1)]), (.tup [(.int 1)])]), (.tup [(.tup [(.int 0), (.int 1)]), (.tup [(.int 1)])])]), (.lst [(.loc 18), (.loc 19), (.loc 20), (.loc 21), (.loc 23), (.loc 25), (.loc 28)]), (.lst [(.tup [(.tup [(.int 7), (.int 7)]), (.tup [(.int 7)])])]), (.lst [(.tup [(.tup [.non, .non]), (.tup [.non])]), (.tup [(.tup [(.int 0), (.int 0)]), (.tup [(.int 0)])]), (.tup [(.tup [(.int 1), (.int 1)]), (.tup [(.int 1)])]), (.tup [(.tup [(.int 7), (.int 7)]), (.tup [(.int 7)])])]), (.lst [(.bl true), (.bl true), (.bl false), (.bl false), (.bl true), (.bl false), (.bl true)]), (.lst [(.bl true), (.bl true), (.bl false), (.bl false), (.bl true), (.bl false), (.bl true)]), (.ins 0 [(.tup [(.tup [(.str "down"), (.str "down"), (.str "look"), .non]), (.tup [(.str "here"), (.str "here"), (.str "look"), .non])]), (.loc 38)]), (.lst [(.bl true), (.bl true)]), (.dct false []), (.lst [(.bl true), (.bl true)]), (.lst []), (.lst []), (.lst []), (.dct false [])]
theorem st_law_alike_right_14 : b__law_alike_right_14 u_law_alike_right_13 S_law_alike_right_13 = .ok .nx u_law_alike_right_14 S_law_alike_right_14 := by kernel_rfl
def u_law_alike_right_15 : Sl := [some (.tup [(.str "here"), (.str "here"), (.str "look"), .non]), some (.tup [(.str "both"), (.str "both"), (.str "look"), .non]), some (.loc 0), some (.loc 8), some (.tup [(.tup [(.str "write"), (.int 0)]), (.tup [(.str "beneath"), (.int 1)]), (.tup [(.str "ask")])]), some (.loc 17), some (.loc 18), some (.loc 26), some (.loc 29), some (.loc 31), none, none, none]
def S_law_alike_right_15 : Sto := [(.ins 0 [(.tup [(.tup [(.str "both"), (.str "both"), (.str "look"), .non]), (.tup [(.str "here"), (.str "here"), (.str "look"), .non])]), (.loc 7)]), (.lst [(.bl true), (.bl true)]), (.dct false []), (.lst [(.bl true), (.bl true)]), (.lst []), (.lst []), (.lst []), (.dct false []), (.ins 0 [(.tup [(.tup [(.str "here"), (.str "here"), (.str "look"), .non])]), (.loc 14)]), (.lst [(.bl true)]), (.dct false []), (.lst [(.bl true)]), (.lst []), (.lst []), (.dct false []), (.lst [(.tup [(.tup [(.tup [(.str "write"), (.int 0)]), (.tup [(.str "beneath"), (.int 1)]), (.tup [(.str "ask")])]), (.bl true)]), (.tup [(.tup [(.tup [(.str "write"), (.int 0)]), (.tup [(.str "beneath"), (.int 1)])]), (.bl false)]), (.tup [(.tup [(.tup [(.str "beneath"), (.int 1)]), (.tup [(.str "ask")])]), (.bl false)]), (.tup [(.tup [(.tup [(.str "write"), (.int 5)]), (.tup [(.str "beneath"), .non]), (.tup [(.str "has")])]), (.bl true)])]), (.lst [(.tup [(.tup [(.tup [(.str "write"), (.int 5)]), (.tup [(.str "beneath"), (.int 5)]), (.tup [(.str "ask")])]), (.bl false)]), (.tup [(.tup [(.tup [(.str "beneath"), (.int 5)]), (.tup [(.str "ask")])]), (.bl false)]), (.tup [(.tup []), (.bl false)])]), (.lst [(.tup [(.tup [(.tup [(.str "write"), (.int 0)]), (.tup [(.str "beneath"), (.int 1)]), (.tup [(.str "ask")])]), (.bl true)]), (.tup [(.tup [(.tup [(.str "write"), (.int 0)]), (.tup [(.str "beneath"), (.int 1)])]), (.bl false)]), (.tup [(.tup [(.tup [(.str "beneath"), (.int 1)]), (.tup [(.str "ask")])]), (.bl false)]), (.tup [(.tup [(.tup [(.str "write"), (.int 5)]), (.tup [(.str "beneath"), .non]), (.tup [(.str "has")])]), (.bl true)]), (.tup [(.tup [(.tup [(.str "write"), (.int 5)]), (.tup [(.str "beneath"), (.int 5)]), (.tup [(.str "ask")])]), (.bl false)]), (.tup [(.tup [(.tup [(.str "beneath"), (.int 5)]), (.tup [(.str "ask")])]), (.bl false)]), (.tup [(.tup []), (.bl false)])]), (.lst [(.tup [(.tup [.non, .non]), (.tup [.non])]), (.tup [(.tup [(.int 0), (.int 0)]), (.tup [(.int 0)])]), (.tup [(.tup [(.int 1), (.int 1)]), (.tup [(.int 1)])])]), (.lst [(.tup [(.tup [(.int 1), (.int 1)]), (.tup [(.int 1)])]), (.tup [(.tup [(.int 0), (.int 0)]), (.tup [(.int 0)])]), (.tup [(.tup [.non, .non]), (.tup [.non])])]), (.lst [(.tup [(.tup [(.int 0), (.int 0)]), (.tup [(.int 0)])]), (.tup [(.tup [(.int 1), (.int 1)]), (.tup [(.int 1)])])]), (.lst [(.tup [(.tup [.non, .non]), (.tup [.non])]), (.tup [(.tup [(.int 0), (.int 0)]), (.tup [(.int 0)])])]), (.lst [(.tup [(.tup [(.int 0), .non]), (.tup [(.int 0)])])]), (.lst [(.tup [(.tup [.non, .non]), (.tup [.non])]), (.tup [(.tup [(.int 0), (.int 0)]), (.tup [(.int 0)])]), (.tup [(.tup [(.int 1), (.int 1)]), (.tup [(.int 1)])]), (.tup [(.tup [(.int 0), .non]), (.tup [(.int 0)])])]), (.lst [(.tup [(.tup [(.int 0), (.int 1)]), (.tup [(.int 1)])])]), (.lst [(.tup [(.tup [.non, .non]), (.tup [.non])]), (.tup [(.tup [(.int 0), (.int 0)]), (.tup [(.int 0)])]), (.tup [(.tup [(.int 1), (.int 1)]), (.tup [(.int 1)])]), (.tup [(.tup [(.int 0), (.int 1)]), (.tup [(.int 1)])])]), (.lst [(.loc 18), (.loc 19), (.loc 20), (.loc 21), (.loc 23), (.loc 25), (.loc 28)]), (.lst [(.tup [(.tup [(.int 7), (.int 7)]), (.tup [(.int 7)])])]), (.lst [(.tup [(.tup [.non, .non]), (.tup [.non])]), (.tup [(.tup [(.int 0), (.int 0)]), (.tup [(.int 0)])]), (.tup [(.tup [(.int 1), (.int 1)]), (.tup [(.int 1)])]), (.tup [(.tup [(.int 7), (.int 7)]), (.tup [(.int 7)])])]), (.lst [(.bl true), (.bl true), (.bl false), (.bl false), (.bl true), (.bl false), (.bl true)]), (.lst [(.bl true), (.bl true), (.bl false), (.bl false), (.bl true), (.bl false), (.bl true)]), (.ins 0 [(.tup [(.tup [(.str "down"), (.str "down"), (.str "look"), .non]), (.tup [(.str "here"), (.str "here"), (.str "look"), .non])]), (.loc 38)]), (.lst [(.bl true), (.bl true)]), (.dct false []), (.lst [(.bl true), (.bl true)]), (.lst []), (.lst []), (.lst []), (.dct false [])]
theorem st_law_alike_right_15 : b__law_alike_right_15 u_law_alike_right_14 S_law_alike_right_14 = .ok .nx u_law_alike_right_15 S_law_alike_right_15 := by kernel_rfl
def u_law_alike_right_16 : Sl := [some (.tup [(.str "here"), (.str "here"), (.str "look"), .non]), some (.tup [(.str "both"), (.str "both"), (.str "look"), .non]), some (.loc 0), some (.loc 8), some (.tup [(.tup [(.str "write"), (.int 0)]), (.tup [(.str "beneath"), (.int 1)]), (.tup [(.str "ask")])]), some (.loc 17), some (.loc 18), some (.loc 26), some (.loc 29), some (.loc 31), some (.loc 39), none, none]
def S_law_alike_right_16 : Sto := [(.ins 0 [(.tup [(.tup [(.str "both"), (.str "both"), (.str "look"), .non]), (.tup [(.str "here"), (.str "here"), (.str "look"), .non])]), (.loc 7)]), (.lst [(.bl true), (.bl true)]), (.dct false []), (.lst [(.bl true), (.bl true)]), (.lst []), (.lst []), (.lst []), (.dct false []), (.ins 0 [(.tup [(.tup [(.str "here"), (.str "here"), (.str "look"), .non])]), (.loc 14)]), (.lst [(.bl true)]), (.dct false []), (.lst [(.bl true)]), (.lst []), (.lst []), (.dct false []), (.lst [(.tup [(.tup [(.tup [(.str "write"), (.int 0)]), (.tup [(.str "beneath"), (.int 1)]), (.tup [(.str "ask")])]), (.bl true)]), (.tup [(.tup [(.tup [(.str "write"), (.int 0)]), (.tup [(.str "beneath"), (.int 1)])]), (.bl false)]), (.tup [(.tup [(.tup [(.str "beneath"), (.int 1)]), (.tup [(.str "ask")])]), (.bl false)]), (.tup [(.tup [(.tup [(.str "write"), (.int 5)]), (.tup [(.str "beneath"), .non]), (.tup [(.str "has")])]), (.bl true)])]), (.lst [(.tup [(.tup [(.tup [(.str "write"), (.int 5)]), (.tup [(.str "beneath"), (.int 5)]), (.tup [(.str "ask")])]), (.bl false)]), (.tup [(.tup [(.tup [(.str "beneath"), (.int 5)]), (.tup [(.str "ask")])]), (.bl false)]), (.tup [(.tup []), (.bl false)])]), (.lst [(.tup [(.tup [(.tup [(.str "write"), (.int 0)]), (.tup [(.str "beneath"), (.int 1)]), (.tup [(.str "ask")])]), (.bl true)]), (.tup [(.tup [(.tup [(.str "write"), (.int 0)]), (.tup [(.str "beneath"), (.int 1)])]), (.bl false)]), (.tup [(.tup [(.tup [(.str "beneath"), (.int 1)]), (.tup [(.str "ask")])]), (.bl false)]), (.tup [(.tup [(.tup [(.str "write"), (.int 5)]), (.tup [(.str "beneath"), .non]), (.tup [(.str "has")])]), (.bl true)]), (.tup [(.tup [(.tup [(.str "write"), (.int 5)]), (.tup [(.str "beneath"), (.int 5)]), (.tup [(.str "ask")])]), (.bl false)]), (.tup [(.tup [(.tup [(.str "beneath"), (.int 5)]), (.tup [(.str "ask")])]), (.bl false)]), (.tup [(.tup []), (.bl false)])]), (.lst [(.tup [(.tup [.non, .non]), (.tup [.non])]), (.tup [(.tup [(.int 0), (.int 0)]), (.tup [(.int 0)])]), (.tup [(.tup [(.int 1), (.int 1)]), (.tup [(.int 1)])])]), (.lst [(.tup [(.tup [(.int 1), (.int 1)]), (.tup [(.int 1)])]), (.tup [(.tup [(.int 0), (.int 0)]), (.tup [(.int 0)])]), (.tup [(.tup [.non, .non]), (.tup [.non])])]), (.lst [(.tup [(.tup [(.int 0), (.int 0)]), (.tup [(.int 0)])]), (.tup [(.tup [(.int 1), (.int 1)]), (.tup [(.int 1)])])]), (.lst [(.tup [(.tup [.non, .non]), (.tup [.non])]), (.tup [(.tup [(.int 0), (.int 0)]), (.tup [(.int 0)])])]), (.lst [(.tup [(.tup [(.int 0), .non]), (.tup [(.int 0)])])]), (.lst [(.tup [(.tup [.non, .non]), (.tup [.non])]), (.tup [(.tup [(.int 0), (.int 0)]), (.tup [(.int 0)])]), (.tup [(.tup [(.int 1), (.int 1)]), (.tup [(.int 1)])]), (.tup [(.tup [(.int 0), .non]), (.tup [(.int 0)])])]), (.lst [(.tup [(.tup [(.int 0), (.int 1)]), (.tup [(.int 1)])])]), (.lst [(.tup [(.tup [.non, .non]), (.tup [.non])]), (.tup [(.tup [(.int 0), (.int 0)]), (.tup [(.int 0)])]), (.tup [(.tup [(.int 1), (.int 1)]), (.tup [(.int 1)])]), (.tup [(.tup [(.int 0), (.int 1)]), (.tup [(.int 1)])])]), (.lst [(.loc 18), (.loc 19), (.loc 20), (.loc 21), (.loc 23), (.loc 25), (.loc 28)]), (.lst [(.tup [(.tup [(.int 7), (.int 7)]), (.tup [(.int 7)])])]), (.lst [(.tup [(.tup [.non, .non]), (.tup [.non])]), (.tup [(.tup [(.int 0), (.int 0)]), (.tup [(.int 0)])]), (.tup [(.tup [(.int 1), (.int 1)]), (.tup [(.int 1)])]), (.tup [(.tup [(.int 7), (.int 7)]), (.tup [(.int 7)])])]), (.lst [(.bl true), (.bl true), (.bl false), (.bl false), (.bl true), (.bl false), (.bl true)]), (.lst [(.bl true), (.bl true), (.bl false), (.bl false), (.bl true), (.bl false), (.bl true)]), (.ins 0 [(.tup [(.tup [(.str "down"), (.str "down"), (.str "look"), .non]), (.tup [(.str "here"), (.str "here"), (.str "look"), .non])]), (.loc 38)]), (.lst [(.bl true), (.bl true)]), (.dct false []), (.lst [(.bl true), (.bl true)]), (.lst []), (.lst []), (.lst []), (.dct false []), (.ins 0 [(.tup [(.tup [(.str "down"), (.str "down"), (.str "keep"), .non]), (.tup [(.str "here"), (.str "here"), (.str "look"), .non])]), (.loc 46)]), (.lst [(.bl true), (.bl true)]), (.dct false []), (.lst [(.bl true), (.bl true)]), (.lst []), (.lst []), (.lst []), (.dct false [])]
theorem st_law_alike_right_16 : b__law_alike_right_16 u_law_alike_right_15 S_law_alike_right_15 = .ok .nx u_law_alike_right_16 S_law_alike_right_16 := by kernel_rfl
theorem st_law_alike_right_17 : isRt (b__law_alike_right_17 u_law_alike_right_16 S_law_alike_right_16) = true := by decide +kernel
theorem ch_law_alike_right : b__law_alike_right u_law_alike_right_s [] = b__law_alike_right_17 u_law_alike_right_16 S_law_alike_right_16 := by
  unfold b__law_alike_right
  rw [seq_step st_law_alike_right_0, seq_step st_law_alike_right_1, seq_step st_law_alike_right_2, seq_step st_law_alike_right_3, seq_step st_law_alike_right_4, seq_step st_law_alike_right_5, seq_step st_law_alike_right_6, seq_step st_law_alike_right_7, seq_step st_law_alike_right_8, seq_step st_law_alike_right_9, seq_step st_law_alike_right_10, seq_step st_law_alike_right_11, seq_step st_law_alike_right_12, seq_step st_law_alike_right_13, seq_step st_law_alike_right_14, seq_step st_law_alike_right_15, seq_step st_law_alike_right_16]
theorem t_law_alike_right : isT (m__law_alike_right [] []) = true := by
  have e : m__law_alike_right [] [] = endD (b__law_alike_right u_law_alike_right_s []) := by kernel_rfl
  rw [e, ch_law_alike_right]
  exact rt_t st_law_alike_right_17
end K6
set_option Elab.async false
set_option autoImplicit false
set_option linter.all false
set_option maxRecDepth 100000
set_option maxHeartbeats 40000000
namespace K6
open PySem L2 Mi
def u_law_fewest_right_s : Sl := [none, none, none, none, none, none, none]
def u_law_fewest_right_0 : Sl := [some (.tup [(.str "here"), (.str "here"), (.str "look"), .non]), some (.tup [(.str "both"), (.str "both"), (.str "look"), .non]), none, none, none, none, none]
def S_law_fewest_right_0 : Sto := []
theorem st_law_fewest_right_0 : b__law_fewest_right_0 u_law_fewest_right_s [] = .ok .nx u_law_fewest_right_0 S_law_fewest_right_0 := by kernel_rfl
def u_law_fewest_right_1 : Sl := [some (.tup [(.str "here"), (.str "here"), (.str "look"), .non]), some (.tup [(.str "both"), (.str "both"), (.str "look"), .non]), some (.tup [(.str "down"), (.str "down"), (.str "look"), .non]), none, none, none, none]
def S_law_fewest_right_1 : Sto := []
theorem st_law_fewest_right_1 : b__law_fewest_right_1 u_law_fewest_right_0 S_law_fewest_right_0 = .ok .nx u_law_fewest_right_1 S_law_fewest_right_1 := by kernel_rfl
def u_law_fewest_right_2 : Sl := [some (.tup [(.str "here"), (.str "here"), (.str "look"), .non]), some (.tup [(.str "both"), (.str "both"), (.str "look"), .non]), some (.tup [(.str "down"), (.str "down"), (.str "look"), .non]), some (.loc 0), none, none, none]
def S_law_fewest_right_2 : Sto := [(.ins 0 [(.tup [(.tup [(.str "down"), (.str "down"), (.str "look"), .non]), (.tup [(.str "both"), (.str "both"), (.str "look"), .non]), (.tup [(.str "here"), (.str "here"), (.str "look"), .non])]), (.loc 8)]), (.lst [(.bl true), (.bl true), (.bl true)]), (.dct false []), (.lst [(.bl true), (.bl true), (.bl true)]), (.lst []), (.lst []), (.lst []), (.lst []), (.dct false [])]
theorem st_law_fewest_right_2 : b__law_fewest_right_2 u_law_fewest_right_1 S_law_fewest_right_1 = .ok .nx u_law_fewest_right_2 S_law_fewest_right_2 := by kernel_rfl
def u_law_fewest_right_3 : Sl := [some (.tup [(.str "here"), (.str "here"), (.str "look"), .non]), some (.tup [(.str "both"), (.str "both"), (.str "look"), .non]), some (.tup [(.str "down"), (.str "down"), (.str "look"), .non]), some (.loc 0), none, none, none]
def S_law_fewest_right_3 : Sto := [(.ins 0 [(.tup [(.tup [(.str "down"), (.str "down"), (.str "look"), .non]), (.tup [(.str "both"), (.str "both"), (.str "look"), .non]), (.tup [(.str "here"), (.str "here"), (.str "look"), .non])]), (.loc 8)]), (.lst [(.bl true), (.bl true), (.bl true)]), (.dct false []), (.lst [(.bl true), (.bl true), (.bl true)]), (.lst []), (.lst []), (.lst []), (.lst []), (.dct false [])]
theorem st_law_fewest_right_3 : b__law_fewest_right_3 u_law_fewest_right_2 S_law_fewest_right_2 = .ok .nx u_law_fewest_right_3 S_law_fewest_right_3 := by kernel_rfl
def u_law_fewest_right_4 : Sl := [some (.tup [(.str "here"), (.str "here"), (.str "look"), .non]), some (.tup [(.str "both"), (.str "both"), (.str "look"), .non]), some (.tup [(.str "down"), (.str "down"), (.str "look"), .non]), some (.loc 0), none, none, none]
def S_law_fewest_right_4 : Sto := [(.ins 0 [(.tup [(.tup [(.str "down"), (.str "down"), (.str "look"), .non]), (.tup [(.str "both"), (.str "both"), (.str "look"), .non]), (.tup [(.str "here"), (.str "here"), (.str "look"), .non])]), (.loc 8)]), (.lst [(.bl true), (.bl true), (.bl true)]), (.dct false []), (.lst [(.bl true), (.bl true), (.bl true)]), (.lst []), (.lst []), (.lst []), (.lst []), (.dct false [])]
theorem st_law_fewest_right_4 : b__law_fewest_right_4 u_law_fewest_right_3 S_law_fewest_right_3 = .ok .nx u_law_fewest_right_4 S_law_fewest_right_4 := by kernel_rfl
def u_law_fewest_right_5 : Sl := [some (.tup [(.str "here"), (.str "here"), (.str "look"), .non]), some (.tup [(.str "both"), (.str "both"), (.str "look"), .non]), some (.tup [(.str "down"), (.str "down"), (.str "look"), .non]), some (.loc 0), none, none, none]
def S_law_fewest_right_5 : Sto := [(.ins 0 [(.tup [(.tup [(.str "down"), (.str "down"), (.str "look"), .non]), (.tup [(.str "both"), (.str "both"), (.str "look"), .non]), (.tup [(.str "here"), (.str "here"), (.str "look"), .non])]), (.loc 8)]), (.lst [(.bl true), (.bl true), (.bl true)]), (.dct false []), (.lst [(.bl true), (.bl true), (.bl true)]), (.lst []), (.lst []), (.lst []), (.lst []), (.dct false [])]
theorem st_law_fewest_right_5 : b__law_fewest_right_5 u_law_fewest_right_4 S_law_fewest_right_4 = .ok .nx u_law_fewest_right_5 S_law_fewest_right_5 := by kernel_rfl
def u_law_fewest_right_6 : Sl := [some (.tup [(.str "here"), (.str "here"), (.str "look"), .non]), some (.tup [(.str "both"), (.str "both"), (.str "look"), .non]), some (.tup [(.str "down"), (.str "down"), (.str "look"), .non]), some (.loc 0), some (.loc 9), some (.loc 98), none]
def S_law_fewest_right_6 : Sto := [(.ins 0 [(.tup [(.tup [(.str "down"), (.str "down"), (.str "look"), .non]), (.tup [(.str "both"), (.str "both"), (.str "look"), .non]), (.tup [(.str "here"), (.str "here"), (.str "look"), .non])]), (.loc 8)]), (.lst [(.bl true), (.bl true), (.bl true)]), (.dct false []), (.lst [(.bl true), (.bl true), (.bl true)]), (.lst []), (.lst []), (.lst []), (.lst []), (.dct false []), (.dtn false [((.tup [(.num 2)]), (.tup [(.int 2)]), (.tup [(.int 0), (.tup [(.tup [(.str "write"), (.int 1)]), (.tup [(.str "beneath"), (.int 0)]), (.tup [(.str "ask")])])]))]), (.lst [(.tup [])]), (.lst [(.tup [(.int 0)])]), (.lst [(.tup []), (.tup [(.int 0)])]), (.lst [(.tup [(.int 1)]), (.tup [(.int 0), (.int 1)])]), (.lst [(.tup []), (.tup [(.int 0)]), (.tup [(.int 1)]), (.tup [(.int 0), (.int 1)])]), (.lst [(.tup [(.int 2)]), (.tup [(.int 0), (.int 2)]), (.tup [(.int 1), (.int 2)]), (.tup [(.int 0), (.int 1), (.int 2)])]), (.lst [(.tup [(.int 2)]), (.tup [(.int 0), (.int 2)]), (.tup [(.int 1), (.int 2)]), (.tup [(.int 0), (.int 1), (.int 2)])]), (.dtn false [((.tup [(.num 2)]), (.tup [(.int 2)]), (.tup [(.int 0), (.tup [(.tup [(.str "write"), (.int 0)]), (.tup [(.str "beneath"), (.int 1)]), (.tup [(.str "ask")])])])), ((.tup [(.num 0), (.num 2)]), (.tup [(.int 0), (.int 2)]), (.tup [(.int 0), (.tup [(.tup [(.str "write"), (.int 0)]), (.tup [(.str "beneath"), (.int 1)]), (.tup [(.str "ask")])])]))]), (.lst [(.loc 19), (.loc 20), (.loc 21)]), (.dct false []), (.dct false []), (.dct false []), (.lst [(.tup [(.str "here"), (.str "here"), (.str "look"), .non])]), (.lst [(.loc 21)]), (.ins 0 [(.tup [(.tup [(.str "here"), (.str "here"), (.str "look"), .non])]), (.loc 29)]), (.lst [(.bl true)]), (.lst [(.bl true)]), (.lst []), (.lst []), (.dct false []), (.lst []), (.lst []), (.lst []), (.lst []), (.lst []), (.lst []), (.dtn false [((.tup [(.tup [.none, .none, .none]), (.tup [.none])]), (.tup [(.tup [.non, .non, .non]), (.tup [.non])]), (.int 0))]), (.dct false []), (.lst [(.int 0)]), (.lst [(.int 0)]), (.dtn false [((.tup [(.tup [.none, .none, .none]), (.tup [.none])]), (.tup [(.tup [.non, .non, .non]), (.tup [.non])]), (.tup [(.int 0), (.tup [])])), ((.tup [(.tup [.none, (.num 0), (.num 0)]), (.tup [(.num 0)])]), (.tup [(.tup [.non, (.int 0), (.int 0)]), (.tup [(.int 0)])]), (.tup [(.int 0), (.tup [(.tup [(.str "write"), (.int 0)])])])), ((.tup [(.tup [.none, (.num 1), (.num 1)]), (.tup [(.num 1)])]), (.tup [(.tup [.non, (.int 1), (.int 1)]), (.tup [(.int 1)])]), (.tup [(.int 0), (.tup [(.tup [(.str "write"), (.int 1)])])])), ((.tup [(.tup [.none, .none, (.num 0)]), (.tup [(.num 0)])]), (.tup [(.tup [.non, .non, (.int 0)]), (.tup [(.int 0)])]), (.tup [(.int 0), (.tup [(.tup [(.str "beneath"), (.int 0)])])])), ((.tup [(.tup [.none, .none, (.num 1)]), (.tup [(.num 1)])]), (.tup [(.tup [.non, .non, (.int 1)]), (.tup [(.int 1)])]), (.tup [(.int 0), (.tup [(.tup [(.str "beneath"), (.int 1)])])])), ((.tup [(.tup [.none, (.num 0), (.num 1)]), (.tup [(.num 1)])]), (.tup [(.tup [.non, (.int 0), (.int 1)]), (.tup [(.int 1)])]), (.tup [(.int 0), (.tup [(.tup [(.str "write"), (.int 0)]), (.tup [(.str "beneath"), (.int 1)])])])), ((.tup [(.tup [.none, (.num 0), .none]), (.tup [.none])]), (.tup [(.tup [.non, (.int 0), .non]), (.tup [.non])]), (.tup [(.int 0), (.tup [(.tup [(.str "write"), (.int 0)]), (.tup [(.str "beneath"), .non])])])), ((.tup [(.tup [.none, (.num 1), (.num 0)]), (.tup [(.num 0)])]), (.tup [(.tup [.non, (.int 1), (.int 0)]), (.tup [(.int 0)])]), (.tup [(.int 0), (.tup [(.tup [(.str "write"), (.int 1)]), (.tup [(.str "beneath"), (.int 0)])])])), ((.tup [(.tup [.none, (.num 1), .none]), (.tup [.none])]), (.tup [(.tup [.non, (.int 1), .non]), (.tup [.non])]), (.tup [(.int 0), (.tup [(.tup [(.str "write"), (.int 1)]), (.tup [(.str "beneath"), .non])])]))]), (.lst [(.tup [(.tup [.non, .non, .non]), (.tup [.non])]), (.tup [(.tup [.non, (.int 0), (.int 0)]), (.tup [(.int 0)])]), (.tup [(.tup [.non, (.int 1), (.int 1)]), (.tup [(.int 1)])]), (.tup [(.tup [.non, .non, (.int 0)]), (.tup [(.int 0)])]), (.tup [(.tup [.non, .non, (.int 1)]), (.tup [(.int 1)])]), (.tup [(.tup [.non, (.int 0), (.int 1)]), (.tup [(.int 1)])]), (.tup [(.tup [.non, (.int 0), .non]), (.tup [.non])]), (.tup [(.tup [.non, (.int 1), (.int 0)]), (.tup [(.int 0)])]), (.tup [(.tup [.non, (.int 1), .non]), (.tup [.non])])]), (.ins 2 [(.int 0), (.tup [(.tup [(.str "write"), (.int 0)]), (.tup [(.str "beneath"), (.int 1)]), (.tup [(.str "ask")])])]), (.lst [(.loc 44), (.loc 45), (.loc 46)]), (.dct false []), (.dct false []), (.dct false []), (.lst [(.tup [(.str "down"), (.str "down"), (.str "look"), .non]), (.tup [(.str "here"), (.str "here"), (.str "look"), .non])]), (.lst [(.loc 44), (.loc 46)]), (.ins 0 [(.tup [(.tup [(.str "down"), (.str "down"), (.str "look"), .non]), (.tup [(.str "here"), (.str "here"), (.str "look"), .non])]), (.loc 55)]), (.lst [(.bl true), (.bl true)]), (.lst [(.bl true), (.bl true)]), (.lst []), (.lst []), (.lst []), (.dct false []), (.lst []), (.lst []), (.lst []), (.lst []), (.lst []), (.lst []), (.dtn false [((.tup [(.tup [.none, .none, .none]), (.tup [.none, .none])]), (.tup [(.tup [.non, .non, .non]), (.tup [.non, .non])]), (.int 0))]), (.dct false []), (.lst [(.int 0)]), (.lst [(.int 0)]), (.dtn false [((.tup [(.tup [.none, .none, .none]), (.tup [.none, .none])]), (.tup [(.tup [.non, .non, .non]), (.tup [.non, .non])]), (.tup [(.int 0), (.tup [])])), ((.tup [(.tup [.none, (.num 0), (.num 0)]), (.tup [.none, (.num 0)])]), (.tup [(.tup [.non, (.int 0), (.int 0)]), (.tup [.non, (.int 0)])]), (.tup [(.int 0), (.tup [(.tup [(.str "write"), (.int 0)])])])), ((.tup [(.tup [.none, (.num 1), (.num 1)]), (.tup [.none, (.num 1)])]), (.tup [(.tup [.non, (.int 1), (.int 1)]), (.tup [.non, (.int 1)])]), (.tup [(.int 0), (.tup [(.tup [(.str "write"), (.int 1)])])])), ((.tup [(.tup [.none, .none, (.num 0)]), (.tup [.none, (.num 0)])]), (.tup [(.tup [.non, .non, (.int 0)]), (.tup [.non, (.int 0)])]), (.tup [(.int 0), (.tup [(.tup [(.str "beneath"), (.int 0)])])])), ((.tup [(.tup [.none, .none, (.num 1)]), (.tup [.none, (.num 1)])]), (.tup [(.tup [.non, .non, (.int 1)]), (.tup [.non, (.int 1)])]), (.tup [(.int 0), (.tup [(.tup [(.str "beneath"), (.int 1)])])])), ((.tup [(.tup [.none, (.num 0), (.num 1)]), (.tup [.none, (.num 1)])]), (.tup [(.tup [.non, (.int 0), (.int 1)]), (.tup [.non, (.int 1)])]), (.tup [(.int 0), (.tup [(.tup [(.str "write"), (.int 0)]), (.tup [(.str "beneath"), (.int 1)])])])), ((.tup [(.tup [.none, (.num 0), .none]), (.tup [.none, .none])]), (.tup [(.tup [.non, (.int 0), .non]), (.tup [.non, .non])]), (.tup [(.int 0), (.tup [(.tup [(.str "write"), (.int 0)]), (.tup [(.str "beneath"), .non])])])), ((.tup [(.tup [.none, (.num 1), (.num 0)]), (.tup [.none, (.num 0)])]), (.tup [(.tup [.non, (.int 1), (.int 0)]), (.tup [.non, (.int 0)])]), (.tup [(.int 0), (.tup [(.tup [(.str "write"), (.int 1)]), (.tup [(.str "beneath"), (.int 0)])])])), ((.tup [(.tup [.none, (.num 1), .none]), (.tup [.none, .none])]), (.tup [(.tup [.non, (.int 1), .non]), (.tup [.non, .non])]), (.tup [(.int 0), (.tup [(.tup [(.str "write"), (.int 1)]), (.tup [(.str "beneath"), .non])])]))]), (.lst [(.tup [(.tup [.non, .non, .non]), (.tup [.non, .non])]), (.tup [(.tup [.non, (.int 0), (.int 0)]), (.tup [.non, (.int 0)])]), (.tup [(.tup [.non, (.int 1), (.int 1)]), (.tup [.non, (.int 1)])]), (.tup [(.tup [.non, .non, (.int 0)]), (.tup [.non, (.int 0)])]), (.tup [(.tup [.non, .non, (.int 1)]), (.tup [.non, (.int 1)])]), (.tup [(.tup [.non, (.int 0), (.int 1)]), (.tup [.non, (.int 1)])]), (.tup [(.tup [.non, (.int 0), .non]), (.tup [.non, .non])]), (.tup [(.tup [.non, (.int 1), (.int 0)]), (.tup [.non, (.int 0)])]), (.tup [(.tup [.non, (.int 1), .non]), (.tup [.non, .non])])]), (.ins 2 [(.int 0), (.tup [(.tup [(.str "write"), (.int 0)]), (.tup [(.str "beneath"), (.int 1)]), (.tup [(.str "ask")])])]), (.lst [(.loc 70), (.loc 71), (.loc 72)]), (.dct false []), (.dct false []), (.dct false []), (.lst [(.tup [(.str "both"), (.str "both"), (.str "look"), .non]), (.tup [(.str "here"), (.str "here"), (.str "look"), .non])]), (.lst [(.loc 71), (.loc 72)]), (.ins 0 [(.tup [(.tup [(.str "both"), (.str "both"), (.str "look"), .non]), (.tup [(.str "here"), (.str "here"), (.str "look"), .non])]), (.loc 81)]), (.lst [(.bl true), (.bl true)]), (.lst [(.bl true), (.bl true)]), (.lst []), (.lst []), (.lst []), (.dct false []), (.lst []), (.lst []), (.lst []), (.lst []), (.lst []), (.lst []), (.dtn false [((.tup [(.tup [.none, .none, .none]), (.tup [.none, .none])]), (.tup [(.tup [.non, .non, .non]), (.tup [.non, .non])]), (.int 0))]), (.dct false []), (.lst [(.int 0)]), (.lst [(.int 0)]), (.dtn false [((.tup [(.tup [.none, .none, .none]), (.tup [.none, .none])]), (.tup [(.tup [.non, .non, .non]), (.tup [.non, .non])]), (.tup [(.int 0), (.tup [])])), ((.tup [(.tup [.none, (.num 0), (.num 0)]), (.tup [(.num 0), (.num 0)])]), (.tup [(.tup [.non, (.int 0), (.int 0)]), (.tup [(.int 0), (.int 0)])]), (.tup [(.int 0), (.tup [(.tup [(.str "write"), (.int 0)])])])), ((.tup [(.tup [.none, (.num 1), (.num 1)]), (.tup [(.num 1), (.num 1)])]), (.tup [(.tup [.non, (.int 1), (.int 1)]), (.tup [(.int 1), (.int 1)])]), (.tup [(.int 0), (.tup [(.tup [(.str "write"), (.int 1)])])])), ((.tup [(.tup [.none, .none, (.num 0)]), (.tup [.none, (.num 0)])]), (.tup [(.tup [.non, .non, (.int 0)]), (.tup [.non, (.int 0)])]), (.tup [(.int 0), (.tup [(.tup [(.str "beneath"), (.int 0)])])])), ((.tup [(.tup [.none, .none, (.num 1)]), (.tup [.none, (.num 1)])]), (.tup [(.tup [.non, .non, (.int 1)]), (.tup [.non, (.int 1)])]), (.tup [(.int 0), (.tup [(.tup [(.str "beneath"), (.int 1)])])])), ((.tup [(.tup [.none, (.num 0), (.num 1)]), (.tup [(.num 0), (.num 1)])]), (.tup [(.tup [.non, (.int 0), (.int 1)]), (.tup [(.int 0), (.int 1)])]), (.tup [(.int 0), (.tup [(.tup [(.str "write"), (.int 0)]), (.tup [(.str "beneath"), (.int 1)])])])), ((.tup [(.tup [.none, (.num 0), .none]), (.tup [(.num 0), .none])]), (.tup [(.tup [.non, (.int 0), .non]), (.tup [(.int 0), .non])]), (.tup [(.int 0), (.tup [(.tup [(.str "write"), (.int 0)]), (.tup [(.str "beneath"), .non])])])), ((.tup [(.tup [.none, (.num 1), (.num 0)]), (.tup [(.num 1), (.num 0)])]), (.tup [(.tup [.non, (.int 1), (.int 0)]), (.tup [(.int 1), (.int 0)])]), (.tup [(.int 0), (.tup [(.tup [(.str "write"), (.int 1)]), (.tup [(.str "beneath"), (.int 0)])])])), ((.tup [(.tup [.none, (.num 1), .none]), (.tup [(.num 1), .none])]), (.tup [(.tup [.non, (.int 1), .non]), (.tup [(.int 1), .non])]), (.tup [(.int 0), (.tup [(.tup [(.str "write"), (.int 1)]), (.tup [(.str "beneath"), .non])])]))]), (.lst [(.tup [(.tup [.non, .non, .non]), (.tup [.non, .non])]), (.tup [(.tup [.non, (.int 0), (.int 0)]), (.tup [(.int 0), (.int 0)])]), (.tup [(.tup [.non, (.int 1), (.int 1)]), (.tup [(.int 1), (.int 1)])]), (.tup [(.tup [.non, .non, (.int 0)]), (.tup [.non, (.int 0)])]), (.tup [(.tup [.non, .non, (.int 1)]), (.tup [.non, (.int 1)])]), (.tup [(.tup [.non, (.int 0), (.int 1)]), (.tup [(.int 0), (.int 1)])]), (.tup [(.tup [.non, (.int 0), .non]), (.tup [(.int 0), .non])]), (.tup [(.tup [.non, (.int 1), (.int 0)]), (.tup [(.int 1), (.int 0)])]), (.tup [(.tup [.non, (.int 1), .non]), (.tup [(.int 1), .non])])]), (.ins 1 [(.loc 95)]), (.lst [(.tup [(.tup [.non, .non, .non]), (.tup [.non, .non])]), (.tup [(.tup [.non, (.int 0), (.int 0)]), (.tup [(.int 0), (.int 0)])]), (.tup [(.tup [.non, (.int 1), (.int 1)]), (.tup [(.int 1), (.int 1)])]), (.tup [(.tup [.non, .non, (.int 0)]), (.tup [.non, (.int 0)])]), (.tup [(.tup [.non, .non, (.int 1)]), (.tup [.non, (.int 1)])]), (.tup [(.tup [.non, (.int 0), (.int 1)]), (.tup [(.int 0), (.int 1)])]), (.tup [(.tup [.non, (.int 0), .non]), (.tup [(.int 0), .non])]), (.tup [(.tup [.non, (.int 1), (.int 0)]), (.tup [(.int 1), (.int 0)])]), (.tup [(.tup [.non, (.int 1), .non]), (.tup [(.int 1), .non])])]), (.dtn false [((.tup [(.num 2)]), (.tup [(.int 2)]), (.tup [(.int 0), (.tup [(.tup [(.str "write"), (.int 0)]), (.tup [(.str "beneath"), (.int 1)]), (.tup [(.str "ask")])])]))]), (.ins 3 [(.tup [(.int 1), (.int 2)]), (.loc 98), (.loc 99)]), (.lst [(.tup [(.tup [.non, .non, .non]), (.tup [.non, .non])]), (.tup [(.tup [.non, (.int 0), (.int 0)]), (.tup [(.int 0), (.int 0)])]), (.tup [(.tup [.non, (.int 1), (.int 1)]), (.tup [(.int 1), (.int 1)])]), (.tup [(.tup [.non, .non, (.int 0)]), (.tup [.non, (.int 0)])]), (.tup [(.tup [.non, .non, (.int 1)]), (.tup [.non, (.int 1)])]), (.tup [(.tup [.non, (.int 0), (.int 1)]), (.tup [(.int 0), (.int 1)])]), (.tup [(.tup [.non, (.int 0), .non]), (.tup [(.int 0), .non])]), (.tup [(.tup [.non, (.int 1), (.int 0)]), (.tup [(.int 1), (.int 0)])]), (.tup [(.tup [.non, (.int 1), .non]), (.tup [(.int 1), .non])])]), (.dtn false [((.tup [(.num 2)]), (.tup [(.int 2)]), (.tup [(.int 0), (.tup [(.tup [(.str "write"), (.int 0)]), (.tup [(.str "beneath"), (.int 1)]), (.tup [(.str "ask")])])]))])]
theorem st_law_fewest_right_6 : b__law_fewest_right_6 u_law_fewest_right_5 S_law_fewest_right_5 = .ok .nx u_law_fewest_right_6 S_law_fewest_right_6 := by kernel_rfl
def u_law_fewest_right_7 : Sl := [some (.tup [(.str "here"), (.str "here"), (.str "look"), .non]), some (.tup [(.str "both"), (.str "both"), (.str "look"), .non]), some (.tup [(.str "down"), (.str "down"), (.str "look"), .non]), some (.loc 0), some (.loc 9), some (.loc 98), none]
def S_law_fewest_right_7 : Sto := [(.ins 0 [(.tup [(.tup [(.str "down"), (.str "down"), (.str "look"), .non]), (.tup [(.str "both"), (.str "both"), (.str "look"), .non]), (.tup [(.str "here"), (.str "here"), (.str "look"), .non])]), (.loc 8)]), (.lst [(.bl true), (.bl true), (.bl true)]), (.dct false []), (.lst [(.bl true), (.bl true), (.bl true)]), (.lst []), (.lst []), (.lst []), (.lst []), (.dct false []), (.dtn false [((.tup [(.num 2)]), (.tup [(.int 2)]), (.tup [(.int 0), (.tup [(.tup [(.str "write"), (.int 1)]), (.tup [(.str "beneath"), (.int 0)]), (.tup [(.str "ask")])])]))]), (.lst [(.tup [])]), (.lst [(.tup [(.int 0)])]), (.lst [(.tup []), (.tup [(.int 0)])]), (.lst [(.tup [(.int 1)]), (.tup [(.int 0), (.int 1)])]), (.lst [(.tup []), (.tup [(.int 0)]), (.tup [(.int 1)]), (.tup [(.int 0), (.int 1)])]), (.lst [(.tup [(.int 2)]), (.tup [(.int 0), (.int 2)]), (.tup [(.int 1), (.int 2)]), (.tup [(.int 0), (.int 1), (.int 2)])]), (.lst [(.tup [(.int 2)]), (.tup [(.int 0), (.int 2)]), (.tup [(.int 1), (.int 2)]), (.tup [(.int 0), (.int 1), (.int 2)])]), (.dtn false [((.tup [(.num 2)]), (.tup [(.int 2)]), (.tup [(.int 0), (.tup [(.tup [(.str "write"), (.int 0)]), (.tup [(.str "beneath"), (.int 1)]), (.tup [(.str "ask")])])])), ((.tup [(.num 0), (.num 2)]), (.tup [(.int 0), (.int 2)]), (.tup [(.int 0), (.tup [(.tup [(.str "write"), (.int 0)]), (.tup [(.str "beneath"), (.int 1)]), (.tup [(.str "ask")])])]))]), (.lst [(.loc 19), (.loc 20), (.loc 21)]), (.dct false []), (.dct false []), (.dct false []), (.lst [(.tup [(.str "here"), (.str "here"), (.str "look"), .non])]), (.lst [(.loc 21)]), (.ins 0 [(.tup [(.tup [(.str "here"), (.str "here"), (.str "look"), .non])]), (.loc 29)]), (.lst [(.bl true)]), (.lst [(.bl true)]), (.lst []), (.lst []), (.dct false []), (.lst []), (.lst []), (.lst []), (.lst []), (.lst []), (.lst []), (.dtn false [((.tup [(.tup [.none, .none, .none]), (.tup [.none])]), (.tup [(.tup [.non, .non, .non]), (.tup [.non])]), (.int 0))]), (.dct false []), (.lst [(.int 0)]), (.lst [(.int 0)]), (.dtn false [((.tup [(.tup [.none, .none, .none]), (.tup [.none])]), (.tup [(.tup [.non, .non, .non]), (.tup [.non])]), (.tup [(.int 0), (.tup [])])), ((.tup [(.tup [.none, (.num 0), (.num 0)]), (.tup [(.num 0)])]), (.tup [(.tup [.non, (.int 0), (.int 0)]), (.tup [(.int 0)])]), (.tup [(.int 0), (.tup [(.tup [(.str "write"), (.int 0)])])])), ((.tup [(.tup [.none, (.num 1), (.num 1)]), (.tup [(.num 1)])]), (.tup [(.tup [.non, (.int 1), (.int 1)]), (.tup [(.int 1)])]), (.tup [(.int 0), (.tup [(.tup [(.str "write"), (.int 1)])])])), ((.tup [(.tup [.none, .none, (.num 0)]), (.tup [(.num 0)])]), (.tup [(.tup [.non, .non, (.int 0)]), (.tup [(.int 0)])]), (.tup [(.int 0), (.tup [(.tup [(.str "beneath"), (.int 0)])])])), ((.tup [(.tup [.none, .none, (.num 1)]), (.tup [(.num 1)])]), (.tup [(.tup [.non, .non, (.int 1)]), (.tup [(.int 1)])]), (.tup [(.int 0), (.tup [(.tup [(.str "beneath"), (.int 1)])])])), ((.tup [(.tup [.none, (.num 0), (.num 1)]), (.tup [(.num 1)])]), (.tup [(.tup [.non, (.int 0), (.int 1)]), (.tup [(.int 1)])]), (.tup [(.int 0), (.tup [(.tup [(.str "write"), (.int 0)]), (.tup [(.str "beneath"), (.int 1)])])])), ((.tup [(.tup [.none, (.num 0), .none]), (.tup [.none])]), (.tup [(.tup [.non, (.int 0), .non]), (.tup [.non])]), (.tup [(.int 0), (.tup [(.tup [(.str "write"), (.int 0)]), (.tup [(.str "beneath"), .non])])])), ((.tup [(.tup [.none, (.num 1), (.num 0)]), (.tup [(.num 0)])]), (.tup [(.tup [.non, (.int 1), (.int 0)]), (.tup [(.int 0)])]), (.tup [(.int 0), (.tup [(.tup [(.str "write"), (.int 1)]), (.tup [(.str "beneath"), (.int 0)])])])), ((.tup [(.tup [.none, (.num 1), .none]), (.tup [.none])]), (.tup [(.tup [.non, (.int 1), .non]), (.tup [.non])]), (.tup [(.int 0), (.tup [(.tup [(.str "write"), (.int 1)]), (.tup [(.str "beneath"), .non])])]))]), (.lst [(.tup [(.tup [.non, .non, .non]), (.tup [.non])]), (.tup [(.tup [.non, (.int 0), (.int 0)]), (.tup [(.int 0)])]), (.tup [(.tup [.non, (.int 1), (.int 1)]), (.tup [(.int 1)])]), (.tup [(.tup [.non, .non, (.int 0)]), (.tup [(.int 0)])]), (.tup [(.tup [.non, .non, (.int 1)]), (.tup [(.int 1)])]), (.tup [(.tup [.non, (.int 0), (.int 1)]), (.tup [(.int 1)])]), (.tup [(.tup [.non, (.int 0), .non]), (.tup [.non])]), (.tup [(.tup [.non, (.int 1), (.int 0)]), (.tup [(.int 0)])]), (.tup [(.tup [.non, (.int 1), .non]), (.tup [.non])])]), (.ins 2 [(.int 0), (.tup [(.tup [(.str "write"), (.int 0)]), (.tup [(.str "beneath"), (.int 1)]), (.tup [(.str "ask")])])]), (.lst [(.loc 44), (.loc 45), (.loc 46)]), (.dct false []), (.dct false []), (.dct false []), (.lst [(.tup [(.str "down"), (.str "down"), (.str "look"), .non]), (.tup [(.str "here"), (.str "here"), (.str "look"), .non])]), (.lst [(.loc 44), (.loc 46)]), (.ins 0 [(.tup [(.tup [(.str "down"), (.str "down"), (.str "look"), .non]), (.tup [(.str "here"), (.str "here"), (.str "look"), .non])]), (.loc 55)]), (.lst [(.bl true), (.bl true)]), (.lst [(.bl true), (.bl true)]), (.lst []), (.lst []), (.lst []), (.dct false []), (.lst []), (.lst []), (.lst []), (.lst []), (.lst []), (.lst []), (.dtn false [((.tup [(.tup [.none, .none, .none]), (.tup [.none, .none])]), (.tup [(.tup [.non, .non, .non]), (.tup [.non, .non])]), (.int 0))]), (.dct false []), (.lst [(.int 0)]), (.lst [(.int 0)]), (.dtn false [((.tup [(.tup [.none, .none, .none]), (.tup [.none, .none])]), (.tup [(.tup [.non, .non, .non]), (.tup [.non, .non])]), (.tup [(.int 0), (.tup [])])), ((.tup [(.tup [.none, (.num 0), (.num 0)]), (.tup [.none, (.num 0)])]), (.tup [(.tup [.non, (.int 0), (.int 0)]), (.tup [.non, (.int 0)])]), (.tup [(.int 0), (.tup [(.tup [(.str "write"), (.int 0)])])])), ((.tup [(.tup [.none, (.num 1), (.num 1)]), (.tup [.none, (.num 1)])]), (.tup [(.tup [.non, (.int 1), (.int 1)]), (.tup [.non, (.int 1)])]), (.tup [(.int 0), (.tup [(.tup [(.str "write"), (.int 1)])])])), ((.tup [(.tup [.none, .none, (.num 0)]), (.tup [.none, (.num 0)])]), (.tup [(.tup [.non, .non, (.int 0)]), (.tup [.non, (.int 0)])]), (.tup [(.int 0), (.tup [(.tup [(.str "beneath"), (.int 0)])])])), ((.tup [(.tup [.none, .none, (.num 1)]), (.tup [.none, (.num 1)])]), (.tup [(.tup [.non, .non, (.int 1)]), (.tup [.non, (.int 1)])]), (.tup [(.int 0), (.tup [(.tup [(.str "beneath"), (.int 1)])])])), ((.tup [(.tup [.none, (.num 0), (.num 1)]), (.tup [.none, (.num 1)])]), (.tup [(.tup [.non, (.int 0), (.int 1)]), (.tup [.non, (.int 1)])]), (.tup [(.int 0), (.tup [(.tup [(.str "write"), (.int 0)]), (.tup [(.str "beneath"), (.int 1)])])])), ((.tup [(.tup [.none, (.num 0), .none]), (.tup [.none, .none])]), (.tup [(.tup [.non, (.int 0), .non]), (.tup [.non, .non])]), (.tup [(.int 0), (.tup [(.tup [(.str "write"), (.int 0)]), (.tup [(.str "beneath"), .non])])])), ((.tup [(.tup [.none, (.num 1), (.num 0)]), (.tup [.none, (.num 0)])]), (.tup [(.tup [.non, (.int 1), (.int 0)]), (.tup [.non, (.int 0)])]), (.tup [(.int 0), (.tup [(.tup [(.str "write"), (.int 1)]), (.tup [(.str "beneath"), (.int 0)])])])), ((.tup [(.tup [.none, (.num 1), .none]), (.tup [.none, .none])]), (.tup [(.tup [.non, (.int 1), .non]), (.tup [.non, .non])]), (.tup [(.int 0), (.tup [(.tup [(.str "write"), (.int 1)]), (.tup [(.str "beneath"), .non])])]))]), (.lst [(.tup [(.tup [.non, .non, .non]), (.tup [.non, .non])]), (.tup [(.tup [.non, (.int 0), (.int 0)]), (.tup [.non, (.int 0)])]), (.tup [(.tup [.non, (.int 1), (.int 1)]), (.tup [.non, (.int 1)])]), (.tup [(.tup [.non, .non, (.int 0)]), (.tup [.non, (.int 0)])]), (.tup [(.tup [.non, .non, (.int 1)]), (.tup [.non, (.int 1)])]), (.tup [(.tup [.non, (.int 0), (.int 1)]), (.tup [.non, (.int 1)])]), (.tup [(.tup [.non, (.int 0), .non]), (.tup [.non, .non])]), (.tup [(.tup [.non, (.int 1), (.int 0)]), (.tup [.non, (.int 0)])]), (.tup [(.tup [.non, (.int 1), .non]), (.tup [.non, .non])])]), (.ins 2 [(.int 0), (.tup [(.tup [(.str "write"), (.int 0)]), (.tup [(.str "beneath"), (.int 1)]), (.tup [(.str "ask")])])]), (.lst [(.loc 70), (.loc 71), (.loc 72)]), (.dct false []), (.dct false []), (.dct false []), (.lst [(.tup [(.str "both"), (.str "both"), (.str "look"), .non]), (.tup [(.str "here"), (.str "here"), (.str "look"), .non])]), (.lst [(.loc 71), (.loc 72)]), (.ins 0 [(.tup [(.tup [(.str "both"), (.str "both"), (.str "look"), .non]), (.tup [(.str "here"), (.str "here"), (.str "look"), .non])]), (.loc 81)]), (.lst [(.bl true), (.bl true)]), (.lst [(.bl true), (.bl true)]), (.lst []), (.lst []), (.lst []), (.dct false []), (.lst []), (.lst []), (.lst []), (.lst []), (.lst []), (.lst []), (.dtn false [((.tup [(.tup [.none, .none, .none]), (.tup [.none, .none])]), (.tup [(.tup [.non, .non, .non]), (.tup [.non, .non])]), (.int 0))]), (.dct false []), (.lst [(.int 0)]), (.lst [(.int 0)]), (.dtn false [((.tup [(.tup [.none, .none, .none]), (.tup [.none, .none])]), (.tup [(.tup [.non, .non, .non]), (.tup [.non, .non])]), (.tup [(.int 0), (.tup [])])), ((.tup [(.tup [.none, (.num 0), (.num 0)]), (.tup [(.num 0), (.num 0)])]), (.tup [(.tup [.non, (.int 0), (.int 0)]), (.tup [(.int 0), (.int 0)])]), (.tup [(.int 0), (.tup [(.tup [(.str "write"), (.int 0)])])])), ((.tup [(.tup [.none, (.num 1), (.num 1)]), (.tup [(.num 1), (.num 1)])]), (.tup [(.tup [.non, (.int 1), (.int 1)]), (.tup [(.int 1), (.int 1)])]), (.tup [(.int 0), (.tup [(.tup [(.str "write"), (.int 1)])])])), ((.tup [(.tup [.none, .none, (.num 0)]), (.tup [.none, (.num 0)])]), (.tup [(.tup [.non, .non, (.int 0)]), (.tup [.non, (.int 0)])]), (.tup [(.int 0), (.tup [(.tup [(.str "beneath"), (.int 0)])])])), ((.tup [(.tup [.none, .none, (.num 1)]), (.tup [.none, (.num 1)])]), (.tup [(.tup [.non, .non, (.int 1)]), (.tup [.non, (.int 1)])]), (.tup [(.int 0), (.tup [(.tup [(.str "beneath"), (.int 1)])])])), ((.tup [(.tup [.none, (.num 0), (.num 1)]), (.tup [(.num 0), (.num 1)])]), (.tup [(.tup [.non, (.int 0), (.int 1)]), (.tup [(.int 0), (.int 1)])]), (.tup [(.int 0), (.tup [(.tup [(.str "write"), (.int 0)]), (.tup [(.str "beneath"), (.int 1)])])])), ((.tup [(.tup [.none, (.num 0), .none]), (.tup [(.num 0), .none])]), (.tup [(.tup [.non, (.int 0), .non]), (.tup [(.int 0), .non])]), (.tup [(.int 0), (.tup [(.tup [(.str "write"), (.int 0)]), (.tup [(.str "beneath"), .non])])])), ((.tup [(.tup [.none, (.num 1), (.num 0)]), (.tup [(.num 1), (.num 0)])]), (.tup [(.tup [.non, (.int 1), (.int 0)]), (.tup [(.int 1), (.int 0)])]), (.tup [(.int 0), (.tup [(.tup [(.str "write"), (.int 1)]), (.tup [(.str "beneath"), (.int 0)])])])), ((.tup [(.tup [.none, (.num 1), .none]), (.tup [(.num 1), .none])]), (.tup [(.tup [.non, (.int 1), .non]), (.tup [(.int 1), .non])]), (.tup [(.int 0), (.tup [(.tup [(.str "write"), (.int 1)]), (.tup [(.str "beneath"), .non])])]))]), (.lst [(.tup [(.tup [.non, .non, .non]), (.tup [.non, .non])]), (.tup [(.tup [.non, (.int 0), (.int 0)]), (.tup [(.int 0), (.int 0)])]), (.tup [(.tup [.non, (.int 1), (.int 1)]), (.tup [(.int 1), (.int 1)])]), (.tup [(.tup [.non, .non, (.int 0)]), (.tup [.non, (.int 0)])]), (.tup [(.tup [.non, .non, (.int 1)]), (.tup [.non, (.int 1)])]), (.tup [(.tup [.non, (.int 0), (.int 1)]), (.tup [(.int 0), (.int 1)])]), (.tup [(.tup [.non, (.int 0), .non]), (.tup [(.int 0), .non])]), (.tup [(.tup [.non, (.int 1), (.int 0)]), (.tup [(.int 1), (.int 0)])]), (.tup [(.tup [.non, (.int 1), .non]), (.tup [(.int 1), .non])])]), (.ins 1 [(.loc 95)]), (.lst [(.tup [(.tup [.non, .non, .non]), (.tup [.non, .non])]), (.tup [(.tup [.non, (.int 0), (.int 0)]), (.tup [(.int 0), (.int 0)])]), (.tup [(.tup [.non, (.int 1), (.int 1)]), (.tup [(.int 1), (.int 1)])]), (.tup [(.tup [.non, .non, (.int 0)]), (.tup [.non, (.int 0)])]), (.tup [(.tup [.non, .non, (.int 1)]), (.tup [.non, (.int 1)])]), (.tup [(.tup [.non, (.int 0), (.int 1)]), (.tup [(.int 0), (.int 1)])]), (.tup [(.tup [.non, (.int 0), .non]), (.tup [(.int 0), .non])]), (.tup [(.tup [.non, (.int 1), (.int 0)]), (.tup [(.int 1), (.int 0)])]), (.tup [(.tup [.non, (.int 1), .non]), (.tup [(.int 1), .non])])]), (.dtn false [((.tup [(.num 2)]), (.tup [(.int 2)]), (.tup [(.int 0), (.tup [(.tup [(.str "write"), (.int 0)]), (.tup [(.str "beneath"), (.int 1)]), (.tup [(.str "ask")])])]))]), (.ins 3 [(.tup [(.int 1), (.int 2)]), (.loc 98), (.loc 99)]), (.lst [(.tup [(.tup [.non, .non, .non]), (.tup [.non, .non])]), (.tup [(.tup [.non, (.int 0), (.int 0)]), (.tup [(.int 0), (.int 0)])]), (.tup [(.tup [.non, (.int 1), (.int 1)]), (.tup [(.int 1), (.int 1)])]), (.tup [(.tup [.non, .non, (.int 0)]), (.tup [.non, (.int 0)])]), (.tup [(.tup [.non, .non, (.int 1)]), (.tup [.non, (.int 1)])]), (.tup [(.tup [.non, (.int 0), (.int 1)]), (.tup [(.int 0), (.int 1)])]), (.tup [(.tup [.non, (.int 0), .non]), (.tup [(.int 0), .non])]), (.tup [(.tup [.non, (.int 1), (.int 0)]), (.tup [(.int 1), (.int 0)])]), (.tup [(.tup [.non, (.int 1), .non]), (.tup [(.int 1), .non])])]), (.dtn false [((.tup [(.num 2)]), (.tup [(.int 2)]), (.tup [(.int 0), (.tup [(.tup [(.str "write"), (.int 0)]), (.tup [(.str "beneath"), (.int 1)]), (.tup [(.str "ask")])])]))])]
theorem st_law_fewest_right_7 : b__law_fewest_right_7 u_law_fewest_right_6 S_law_fewest_right_6 = .ok .nx u_law_fewest_right_7 S_law_fewest_right_7 := by kernel_rfl
def u_law_fewest_right_8 : Sl := [some (.tup [(.str "here"), (.str "here"), (.str "look"), .non]), some (.tup [(.str "both"), (.str "both"), (.str "look"), .non]), some (.tup [(.str "down"), (.str "down"), (.str "look"), .non]), some (.loc 0), some (.loc 9), some (.loc 98), none]
def S_law_fewest_right_8 : Sto := [(.ins 0 [(.tup [(.tup [(.str "down"), (.str "down"), (.str "look"), .non]), (.tup [(.str "both"), (.str "both"), (.str "look"), .non]), (.tup [(.str "here"), (.str "here"), (.str "look"), .non])]), (.loc 8)]), (.lst [(.bl true), (.bl true), (.bl true)]), (.dct false []), (.lst [(.bl true), (.bl true), (.bl true)]), (.lst []), (.lst []), (.lst []), (.lst []), (.dct false []), (.dtn false [((.tup [(.num 2)]), (.tup [(.int 2)]), (.tup [(.int 0), (.tup [(.tup [(.str "write"), (.int 1)]), (.tup [(.str "beneath"), (.int 0)]), (.tup [(.str "ask")])])]))]), (.lst [(.tup [])]), (.lst [(.tup [(.int 0)])]), (.lst [(.tup []), (.tup [(.int 0)])]), (.lst [(.tup [(.int 1)]), (.tup [(.int 0), (.int 1)])]), (.lst [(.tup []), (.tup [(.int 0)]), (.tup [(.int 1)]), (.tup [(.int 0), (.int 1)])]), (.lst [(.tup [(.int 2)]), (.tup [(.int 0), (.int 2)]), (.tup [(.int 1), (.int 2)]), (.tup [(.int 0), (.int 1), (.int 2)])]), (.lst [(.tup [(.int 2)]), (.tup [(.int 0), (.int 2)]), (.tup [(.int 1), (.int 2)]), (.tup [(.int 0), (.int 1), (.int 2)])]), (.dtn false [((.tup [(.num 2)]), (.tup [(.int 2)]), (.tup [(.int 0), (.tup [(.tup [(.str "write"), (.int 0)]), (.tup [(.str "beneath"), (.int 1)]), (.tup [(.str "ask")])])])), ((.tup [(.num 0), (.num 2)]), (.tup [(.int 0), (.int 2)]), (.tup [(.int 0), (.tup [(.tup [(.str "write"), (.int 0)]), (.tup [(.str "beneath"), (.int 1)]), (.tup [(.str "ask")])])]))]), (.lst [(.loc 19), (.loc 20), (.loc 21)]), (.dct false []), (.dct false []), (.dct false []), (.lst [(.tup [(.str "here"), (.str "here"), (.str "look"), .non])]), (.lst [(.loc 21)]), (.ins 0 [(.tup [(.tup [(.str "here"), (.str "here"), (.str "look"), .non])]), (.loc 29)]), (.lst [(.bl true)]), (.lst [(.bl true)]), (.lst []), (.lst []), (.dct false []), (.lst []), (.lst []), (.lst []), (.lst []), (.lst []), (.lst []), (.dtn false [((.tup [(.tup [.none, .none, .none]), (.tup [.none])]), (.tup [(.tup [.non, .non, .non]), (.tup [.non])]), (.int 0))]), (.dct false []), (.lst [(.int 0)]), (.lst [(.int 0)]), (.dtn false [((.tup [(.tup [.none, .none, .none]), (.tup [.none])]), (.tup [(.tup [.non, .non, .non]), (.tup [.non])]), (.tup [(.int 0), (.tup [])])), ((.tup [(.tup [.none, (.num 0), (.num 0)]), (.tup [(.num 0)])]), (.tup [(.tup [.non, (.int 0), (.int 0)]), (.tup [(.int 0)])]), (.tup [(.int 0), (.tup [(.tup [(.str "write"), (.int 0)])])])), ((.tup [(.tup [.none, (.num 1), (.num 1)]), (.tup [(.num 1)])]), (.tup [(.tup [.non, (.int 1), (.int 1)]), (.tup [(.int 1)])]), (.tup [(.int 0), (.tup [(.tup [(.str "write"), (.int 1)])])])), ((.tup [(.tup [.none, .none, (.num 0)]), (.tup [(.num 0)])]), (.tup [(.tup [.non, .non, (.int 0)]), (.tup [(.int 0)])]), (.tup [(.int 0), (.tup [(.tup [(.str "beneath"), (.int 0)])])])), ((.tup [(.tup [.none, .none, (.num 1)]), (.tup [(.num 1)])]), (.tup [(.tup [.non, .non, (.int 1)]), (.tup [(.int 1)])]), (.tup [(.int 0), (.tup [(.tup [(.str "beneath"), (.int 1)])])])), ((.tup [(.tup [.none, (.num 0), (.num 1)]), (.tup [(.num 1)])]), (.tup [(.tup [.non, (.int 0), (.int 1)]), (.tup [(.int 1)])]), (.tup [(.int 0), (.tup [(.tup [(.str "write"), (.int 0)]), (.tup [(.str "beneath"), (.int 1)])])])), ((.tup [(.tup [.none, (.num 0), .none]), (.tup [.none])]), (.tup [(.tup [.non, (.int 0), .non]), (.tup [.non])]), (.tup [(.int 0), (.tup [(.tup [(.str "write"), (.int 0)]), (.tup [(.str "beneath"), .non])])])), ((.tup [(.tup [.none, (.num 1), (.num 0)]), (.tup [(.num 0)])]), (.tup [(.tup [.non, (.int 1), (.int 0)]), (.tup [(.int 0)])]), (.tup [(.int 0), (.tup [(.tup [(.str "write"), (.int 1)]), (.tup [(.str "beneath"), (.int 0)])])])), ((.tup [(.tup [.none, (.num 1), .none]), (.tup [.none])]), (.tup [(.tup [.non, (.int 1), .non]), (.tup [.non])]), (.tup [(.int 0), (.tup [(.tup [(.str "write"), (.int 1)]), (.tup [(.str "beneath"), .non])])]))]), (.lst [(.tup [(.tup [.non, .non, .non]), (.tup [.non])]), (.tup [(.tup [.non, (.int 0), (.int 0)]), (.tup [(.int 0)])]), (.tup [(.tup [.non, (.int 1), (.int 1)]), (.tup [(.int 1)])]), (.tup [(.tup [.non, .non, (.int 0)]), (.tup [(.int 0)])]), (.tup [(.tup [.non, .non, (.int 1)]), (.tup [(.int 1)])]), (.tup [(.tup [.non, (.int 0), (.int 1)]), (.tup [(.int 1)])]), (.tup [(.tup [.non, (.int 0), .non]), (.tup [.non])]), (.tup [(.tup [.non, (.int 1), (.int 0)]), (.tup [(.int 0)])]), (.tup [(.tup [.non, (.int 1), .non]), (.tup [.non])])]), (.ins 2 [(.int 0), (.tup [(.tup [(.str "write"), (.int 0)]), (.tup [(.str "beneath"), (.int 1)]), (.tup [(.str "ask")])])]), (.lst [(.loc 44), (.loc 45), (.loc 46)]), (.dct false []), (.dct false []), (.dct false []), (.lst [(.tup [(.str "down"), (.str "down"), (.str "look"), .non]), (.tup [(.str "here"), (.str "here"), (.str "look"), .non])]), (.lst [(.loc 44), (.loc 46)]), (.ins 0 [(.tup [(.tup [(.str "down"), (.str "down"), (.str "look"), .non]), (.tup [(.str "here"), (.str "here"), (.str "look"), .non])]), (.loc 55)]), (.lst [(.bl true), (.bl true)]), (.lst [(.bl true), (.bl true)]), (.lst []), (.lst []), (.lst []), (.dct false []), (.lst []), (.lst []), (.lst []), (.lst []), (.lst []), (.lst []), (.dtn false [((.tup [(.tup [.none, .none, .none]), (.tup [.none, .none])]), (.tup [(.tup [.non, .non, .non]), (.tup [.non, .non])]), (.int 0))]), (.dct false []), (.lst [(.int 0)]), (.lst [(.int 0)]), (.dtn false [((.tup [(.tup [.none, .none, .none]), (.tup [.none, .none])]), (.tup [(.tup [.non, .non, .non]), (.tup [.non, .non])]), (.tup [(.int 0), (.tup [])])), ((.tup [(.tup [.none, (.num 0), (.num 0)]), (.tup [.none, (.num 0)])]), (.tup [(.tup [.non, (.int 0), (.int 0)]), (.tup [.non, (.int 0)])]), (.tup [(.int 0), (.tup [(.tup [(.str "write"), (.int 0)])])])), ((.tup [(.tup [.none, (.num 1), (.num 1)]), (.tup [.none, (.num 1)])]), (.tup [(.tup [.non, (.int 1), (.int 1)]), (.tup [.non, (.int 1)])]), (.tup [(.int 0), (.tup [(.tup [(.str "write"), (.int 1)])])])), ((.tup [(.tup [.none, .none, (.num 0)]), (.tup [.none, (.num 0)])]), (.tup [(.tup [.non, .non, (.int 0)]), (.tup [.non, (.int 0)])]), (.tup [(.int 0), (.tup [(.tup [(.str "beneath"), (.int 0)])])])), ((.tup [(.tup [.none, .none, (.num 1)]), (.tup [.none, (.num 1)])]), (.tup [(.tup [.non, .non, (.int 1)]), (.tup [.non, (.int 1)])]), (.tup [(.int 0), (.tup [(.tup [(.str "beneath"), (.int 1)])])])), ((.tup [(.tup [.none, (.num 0), (.num 1)]), (.tup [.none, (.num 1)])]), (.tup [(.tup [.non, (.int 0), (.int 1)]), (.tup [.non, (.int 1)])]), (.tup [(.int 0), (.tup [(.tup [(.str "write"), (.int 0)]), (.tup [(.str "beneath"), (.int 1)])])])), ((.tup [(.tup [.none, (.num 0), .none]), (.tup [.none, .none])]), (.tup [(.tup [.non, (.int 0), .non]), (.tup [.non, .non])]), (.tup [(.int 0), (.tup [(.tup [(.str "write"), (.int 0)]), (.tup [(.str "beneath"), .non])])])), ((.tup [(.tup [.none, (.num 1), (.num 0)]), (.tup [.none, (.num 0)])]), (.tup [(.tup [.non, (.int 1), (.int 0)]), (.tup [.non, (.int 0)])]), (.tup [(.int 0), (.tup [(.tup [(.str "write"), (.int 1)]), (.tup [(.str "beneath"), (.int 0)])])])), ((.tup [(.tup [.none, (.num 1), .none]), (.tup [.none, .none])]), (.tup [(.tup [.non, (.int 1), .non]), (.tup [.non, .non])]), (.tup [(.int 0), (.tup [(.tup [(.str "write"), (.int 1)]), (.tup [(.str "beneath"), .non])])]))]), (.lst [(.tup [(.tup [.non, .non, .non]), (.tup [.non, .non])]), (.tup [(.tup [.non, (.int 0), (.int 0)]), (.tup [.non, (.int 0)])]), (.tup [(.tup [.non, (.int 1), (.int 1)]), (.tup [.non, (.int 1)])]), (.tup [(.tup [.non, .non, (.int 0)]), (.tup [.non, (.int 0)])]), (.tup [(.tup [.non, .non, (.int 1)]), (.tup [.non, (.int 1)])]), (.tup [(.tup [.non, (.int 0), (.int 1)]), (.tup [.non, (.int 1)])]), (.tup [(.tup [.non, (.int 0), .non]), (.tup [.non, .non])]), (.tup [(.tup [.non, (.int 1), (.int 0)]), (.tup [.non, (.int 0)])]), (.tup [(.tup [.non, (.int 1), .non]), (.tup [.non, .non])])]), (.ins 2 [(.int 0), (.tup [(.tup [(.str "write"), (.int 0)]), (.tup [(.str "beneath"), (.int 1)]), (.tup [(.str "ask")])])]), (.lst [(.loc 70), (.loc 71), (.loc 72)]), (.dct false []), (.dct false []), (.dct false []), (.lst [(.tup [(.str "both"), (.str "both"), (.str "look"), .non]), (.tup [(.str "here"), (.str "here"), (.str "look"), .non])]), (.lst [(.loc 71), (.loc 72)]), (.ins 0 [(.tup [(.tup [(.str "both"), (.str "both"), (.str "look"), .non]), (.tup [(.str "here"), (.str "here"), (.str "look"), .non])]), (.loc 81)]), (.lst [(.bl true), (.bl true)]), (.lst [(.bl true), (.bl true)]), (.lst []), (.lst []), (.lst []), (.dct false []), (.lst []), (.lst []), (.lst []), (.lst []), (.lst []), (.lst []), (.dtn false [((.tup [(.tup [.none, .none, .none]), (.tup [.none, .none])]), (.tup [(.tup [.non, .non, .non]), (.tup [.non, .non])]), (.int 0))]), (.dct false []), (.lst [(.int 0)]), (.lst [(.int 0)]), (.dtn false [((.tup [(.tup [.none, .none, .none]), (.tup [.none, .none])]), (.tup [(.tup [.non, .non, .non]), (.tup [.non, .non])]), (.tup [(.int 0), (.tup [])])), ((.tup [(.tup [.none, (.num 0), (.num 0)]), (.tup [(.num 0), (.num 0)])]), (.tup [(.tup [.non, (.int 0), (.int 0)]), (.tup [(.int 0), (.int 0)])]), (.tup [(.int 0), (.tup [(.tup [(.str "write"), (.int 0)])])])), ((.tup [(.tup [.none, (.num 1), (.num 1)]), (.tup [(.num 1), (.num 1)])]), (.tup [(.tup [.non, (.int 1), (.int 1)]), (.tup [(.int 1), (.int 1)])]), (.tup [(.int 0), (.tup [(.tup [(.str "write"), (.int 1)])])])), ((.tup [(.tup [.none, .none, (.num 0)]), (.tup [.none, (.num 0)])]), (.tup [(.tup [.non, .non, (.int 0)]), (.tup [.non, (.int 0)])]), (.tup [(.int 0), (.tup [(.tup [(.str "beneath"), (.int 0)])])])), ((.tup [(.tup [.none, .none, (.num 1)]), (.tup [.none, (.num 1)])]), (.tup [(.tup [.non, .non, (.int 1)]), (.tup [.non, (.int 1)])]), (.tup [(.int 0), (.tup [(.tup [(.str "beneath"), (.int 1)])])])), ((.tup [(.tup [.none, (.num 0), (.num 1)]), (.tup [(.num 0), (.num 1)])]), (.tup [(.tup [.non, (.int 0), (.int 1)]), (.tup [(.int 0), (.int 1)])]), (.tup [(.int 0), (.tup [(.tup [(.str "write"), (.int 0)]), (.tup [(.str "beneath"), (.int 1)])])])), ((.tup [(.tup [.none, (.num 0), .none]), (.tup [(.num 0), .none])]), (.tup [(.tup [.non, (.int 0), .non]), (.tup [(.int 0), .non])]), (.tup [(.int 0), (.tup [(.tup [(.str "write"), (.int 0)]), (.tup [(.str "beneath"), .non])])])), ((.tup [(.tup [.none, (.num 1), (.num 0)]), (.tup [(.num 1), (.num 0)])]), (.tup [(.tup [.non, (.int 1), (.int 0)]), (.tup [(.int 1), (.int 0)])]), (.tup [(.int 0), (.tup [(.tup [(.str "write"), (.int 1)]), (.tup [(.str "beneath"), (.int 0)])])])), ((.tup [(.tup [.none, (.num 1), .none]), (.tup [(.num 1), .none])]), (.tup [(.tup [.non, (.int 1), .non]), (.tup [(.int 1), .non])]), (.tup [(.int 0), (.tup [(.tup [(.str "write"), (.int 1)]), (.tup [(.str "beneath"), .non])])]))]), (.lst [(.tup [(.tup [.non, .non, .non]), (.tup [.non, .non])]), (.tup [(.tup [.non, (.int 0), (.int 0)]), (.tup [(.int 0), (.int 0)])]), (.tup [(.tup [.non, (.int 1), (.int 1)]), (.tup [(.int 1), (.int 1)])]), (.tup [(.tup [.non, .non, (.int 0)]), (.tup [.non, (.int 0)])]), (.tup [(.tup [.non, .non, (.int 1)]), (.tup [.non, (.int 1)])]), (.tup [(.tup [.non, (.int 0), (.int 1)]), (.tup [(.int 0), (.int 1)])]), (.tup [(.tup [.non, (.int 0), .non]), (.tup [(.int 0), .non])]), (.tup [(.tup [.non, (.int 1), (.int 0)]), (.tup [(.int 1), (.int 0)])]), (.tup [(.tup [.non, (.int 1), .non]), (.tup [(.int 1), .non])])]), (.ins 1 [(.loc 95)]), (.lst [(.tup [(.tup [.non, .non, .non]), (.tup [.non, .non])]), (.tup [(.tup [.non, (.int 0), (.int 0)]), (.tup [(.int 0), (.int 0)])]), (.tup [(.tup [.non, (.int 1), (.int 1)]), (.tup [(.int 1), (.int 1)])]), (.tup [(.tup [.non, .non, (.int 0)]), (.tup [.non, (.int 0)])]), (.tup [(.tup [.non, .non, (.int 1)]), (.tup [.non, (.int 1)])]), (.tup [(.tup [.non, (.int 0), (.int 1)]), (.tup [(.int 0), (.int 1)])]), (.tup [(.tup [.non, (.int 0), .non]), (.tup [(.int 0), .non])]), (.tup [(.tup [.non, (.int 1), (.int 0)]), (.tup [(.int 1), (.int 0)])]), (.tup [(.tup [.non, (.int 1), .non]), (.tup [(.int 1), .non])])]), (.dtn false [((.tup [(.num 2)]), (.tup [(.int 2)]), (.tup [(.int 0), (.tup [(.tup [(.str "write"), (.int 0)]), (.tup [(.str "beneath"), (.int 1)]), (.tup [(.str "ask")])])]))]), (.ins 3 [(.tup [(.int 1), (.int 2)]), (.loc 98), (.loc 99)]), (.lst [(.tup [(.tup [.non, .non, .non]), (.tup [.non, .non])]), (.tup [(.tup [.non, (.int 0), (.int 0)]), (.tup [(.int 0), (.int 0)])]), (.tup [(.tup [.non, (.int 1), (.int 1)]), (.tup [(.int 1), (.int 1)])]), (.tup [(.tup [.non, .non, (.int 0)]), (.tup [.non, (.int 0)])]), (.tup [(.tup [.non, .non, (.int 1)]), (.tup [.non, (.int 1)])]), (.tup [(.tup [.non, (.int 0), (.int 1)]), (.tup [(.int 0), (.int 1)])]), (.tup [(.tup [.non, (.int 0), .non]), (.tup [(.int 0), .non])]), (.tup [(.tup [.non, (.int 1), (.int 0)]), (.tup [(.int 1), (.int 0)])]), (.tup [(.tup [.non, (.int 1), .non]), (.tup [(.int 1), .non])])]), (.dtn false [((.tup [(.num 2)]), (.tup [(.int 2)]), (.tup [(.int 0), (.tup [(.tup [(.str "write"), (.int 0)]), (.tup [(.str "beneath"), (.int 1)]), (.tup [(.str "ask")])])]))])]
theorem st_law_fewest_right_8 : b__law_fewest_right_8 u_law_fewest_right_7 S_law_fewest_right_7 = .ok .nx u_law_fewest_right_8 S_law_fewest_right_8 := by kernel_rfl
def u_law_fewest_right_9 : Sl := [some (.tup [(.str "here"), (.str "here"), (.str "look"), .non]), some (.tup [(.str "both"), (.str "both"), (.str "look"), .non]), some (.tup [(.str "down"), (.str "down"), (.str "look"), .non]), some (.loc 0), some (.loc 9), some (.loc 98), some (.loc 100)]
def S_law_fewest_right_9 : Sto := [(.ins 0 [(.tup [(.tup [(.str "down"), (.str "down"), (.str "look"), .non]), (.tup [(.str "both"), (.str "both"), (.str "look"), .non]), (.tup [(.str "here"), (.str "here"), (.str "look"), .non])]), (.loc 8)]), (.lst [(.bl true), (.bl true), (.bl true)]), (.dct false []), (.lst [(.bl true), (.bl true), (.bl true)]), (.lst []), (.lst []), (.lst []), (.lst []), (.dct false []), (.dtn false [((.tup [(.num 2)]), (.tup [(.int 2)]), (.tup [(.int 0), (.tup [(.tup [(.str "write"), (.int 1)]), (.tup [(.str "beneath"), (.int 0)]), (.tup [(.str "ask")])])]))]), (.lst [(.tup [])]), (.lst [(.tup [(.int 0)])]), (.lst [(.tup []), (.tup [(.int 0)])]), (.lst [(.tup [(.int 1)]), (.tup [(.int 0), (.int 1)])]), (.lst [(.tup []), (.tup [(.int 0)]), (.tup [(.int 1)]), (.tup [(.int 0), (.int 1)])]), (.lst [(.tup [(.int 2)]), (.tup [(.int 0), (.int 2)]), (.tup [(.int 1), (.int 2)]), (.tup [(.int 0), (.int 1), (.int 2)])]), (.lst [(.tup [(.int 2)]), (.tup [(.int 0), (.int 2)]), (.tup [(.int 1), (.int 2)]), (.tup [(.int 0), (.int 1), (.int 2)])]), (.dtn false [((.tup [(.num 2)]), (.tup [(.int 2)]), (.tup [(.int 0), (.tup [(.tup [(.str "write"), (.int 0)]), (.tup [(.str "beneath"), (.int 1)]), (.tup [(.str "ask")])])])), ((.tup [(.num 0), (.num 2)]), (.tup [(.int 0), (.int 2)]), (.tup [(.int 0), (.tup [(.tup [(.str "write"), (.int 0)]), (.tup [(.str "beneath"), (.int 1)]), (.tup [(.str "ask")])])]))]), (.lst [(.loc 19), (.loc 20), (.loc 21)]), (.dct false []), (.dct false []), (.dct false []), (.lst [(.tup [(.str "here"), (.str "here"), (.str "look"), .non])]), (.lst [(.loc 21)]), (.ins 0 [(.tup [(.tup [(.str "here"), (.str "here"), (.str "look"), .non])]), (.loc 29)]), (.lst [(.bl true)]), (.lst [(.bl true)]), (.lst []), (.lst []), (.dct false []), (.lst []), (.lst []), (.lst []), (.lst []), (.lst []), (.lst []), (.dtn false [((.tup [(.tup [.none, .none, .none]), (.tup [.none])]), (.tup [(.tup [.non, .non, .non]), (.tup [.non])]), (.int 0))]), (.dct false []), (.lst [(.int 0)]), (.lst [(.int 0)]), (.dtn false [((.tup [(.tup [.none, .none, .none]), (.tup [.none])]), (.tup [(.tup [.non, .non, .non]), (.tup [.non])]), (.tup [(.int 0), (.tup [])])), ((.tup [(.tup [.none, (.num 0), (.num 0)]), (.tup [(.num 0)])]), (.tup [(.tup [.non, (.int 0), (.int 0)]), (.tup [(.int 0)])]), (.tup [(.int 0), (.tup [(.tup [(.str "write"), (.int 0)])])])), ((.tup [(.tup [.none, (.num 1), (.num 1)]), (.tup [(.num 1)])]), (.tup [(.tup [.non, (.int 1), (.int 1)]), (.tup [(.int 1)])]), (.tup [(.int 0), (.tup [(.tup [(.str "write"), (.int 1)])])])), ((.tup [(.tup [.none, .none, (.num 0)]), (.tup [(.num 0)])]), (.tup [(.tup [.non, .non, (.int 0)]), (.tup [(.int 0)])]), (.tup [(.int 0), (.tup [(.tup [(.str "beneath"), (.int 0)])])])), ((.tup [(.tup [.none, .none, (.num 1)]), (.tup [(.num 1)])]), (.tup [(.tup [.non, .non, (.int 1)]), (.tup [(.int 1)])]), (.tup [(.int 0), (.tup [(.tup [(.str "beneath"), (.int 1)])])])), ((.tup [(.tup [.none, (.num 0), (.num 1)]), (.tup [(.num 1)])]), (.tup [(.tup [.non, (.int 0), (.int 1)]), (.tup [(.int 1)])]), (.tup [(.int 0), (.tup [(.tup [(.str "write"), (.int 0)]), (.tup [(.str "beneath"), (.int 1)])])])), ((.tup [(.tup [.none, (.num 0), .none]), (.tup [.none])]), (.tup [(.tup [.non, (.int 0), .non]), (.tup [.non])]), (.tup [(.int 0), (.tup [(.tup [(.str "write"), (.int 0)]), (.tup [(.str "beneath"), .non])])])), ((.tup [(.tup [.none, (.num 1), (.num 0)]), (.tup [(.num 0)])]), (.tup [(.tup [.non, (.int 1), (.int 0)]), (.tup [(.int 0)])]), (.tup [(.int 0), (.tup [(.tup [(.str "write"), (.int 1)]), (.tup [(.str "beneath"), (.int 0)])])])), ((.tup [(.tup [.none, (.num 1), .none]), (.tup [.none])]), (.tup [(.tup [.non, (.int 1), .non]), (.tup [.non])]), (.tup [(.int 0), (.tup [(.tup [(.str "write"), (.int 1)]), (.tup [(.str "beneath"), .non])])]))]), (.lst [(.tup [(.tup [.non, .non, .non]), (.tup [.non])]), (.tup [(.tup [.non, (.int 0), (.int 0)]), (.tup [(.int 0)])]), (.tup [(.tup [.non, (.int 1), (.int 1)]), (.tup [(.int 1)])]), (.tup [(.tup [.non, .non, (.int 0)]), (.tup [(.int 0)])]), (.tup [(.tup [.non, .non, (.int 1)]), (.tup [(.int 1)])]), (.tup [(.tup [.non, (.int 0), (.int 1)]), (.tup [(.int 1)])]), (.tup [(.tup [.non, (.int 0), .non]), (.tup [.non])]), (.tup [(.tup [.non, (.int 1), (.int 0)]), (.tup [(.int 0)])]), (.tup [(.tup [.non, (.int 1), .non]), (.tup [.non])])]), (.ins 2 [(.int 0), (.tup [(.tup [(.str "write"), (.int 0)]), (.tup [(.str "beneath"), (.int 1)]), (.tup [(.str "ask")])])]), (.lst [(.loc 44), (.loc 45), (.loc 46)]), (.dct false []), (.dct false []), (.dct false []), (.lst [(.tup [(.str "down"), (.str "down"), (.str "look"), .non]), (.tup [(.str "here"), (.str "here"), (.str "look"), .non])]), (.lst [(.loc 44), (.loc 46)]), (.ins 0 [(.tup [(.tup [(.str "down"), (.str "down"), (.str "look"), .non]), (.tup [(.str "here"), (.str "here"), (.str "look"), .non])]), (.loc 55)]), (.lst [(.bl true), (.bl true)]), (.lst [(.bl true), (.bl true)]), (.lst []), (.lst []), (.lst []), (.dct false []), (.lst []), (.lst []), (.lst []), (.lst []), (.lst []), (.lst []), (.dtn false [((.tup [(.tup [.none, .none, .none]), (.tup [.none, .none])]), (.tup [(.tup [.non, .non, .non]), (.tup [.non, .non])]), (.int 0))]), (.dct false []), (.lst [(.int 0)]), (.lst [(.int 0)]), (.dtn false [((.tup [(.tup [.none, .none, .none]), (.tup [.none, .none])]), (.tup [(.tup [.non, .non, .non]), (.tup [.non, .non])]), (.tup [(.int 0), (.tup [])])), ((.tup [(.tup [.none, (.num 0), (.num 0)]), (.tup [.none, (.num 0)])]), (.tup [(.tup [.non, (.int 0), (.int 0)]), (.tup [.non, (.int 0)])]), (.tup [(.int 0), (.tup [(.tup [(.str "write"), (.int 0)])])])), ((.tup [(.tup [.none, (.num 1), (.num 1)]), (.tup [.none, (.num 1)])]), (.tup [(.tup [.non, (.int 1), (.int 1)]), (.tup [.non, (.int 1)])]), (.tup [(.int 0), (.tup [(.tup [(.str "write"), (.int 1)])])])), ((.tup [(.tup [.none, .none, (.num 0)]), (.tup [.none, (.num 0)])]), (.tup [(.tup [.non, .non, (.int 0)]), (.tup [.non, (.int 0)])]), (.tup [(.int 0), (.tup [(.tup [(.str "beneath"), (.int 0)])])])), ((.tup [(.tup [.none, .none, (.num 1)]), (.tup [.none, (.num 1)])]), (.tup [(.tup [.non, .non, (.int 1)]), (.tup [.non, (.int 1)])]), (.tup [(.int 0), (.tup [(.tup [(.str "beneath"), (.int 1)])])])), ((.tup [(.tup [.none, (.num 0), (.num 1)]), (.tup [.none, (.num 1)])]), (.tup [(.tup [.non, (.int 0), (.int 1)]), (.tup [.non, (.int 1)])]), (.tup [(.int 0), (.tup [(.tup [(.str "write"), (.int 0)]), (.tup [(.str "beneath"), (.int 1)])])])), ((.tup [(.tup [.none, (.num 0), .none]), (.tup [.none, .none])]), (.tup [(.tup [.non, (.int 0), .non]), (.tup [.non, .non])]), (.tup [(.int 0), (.tup [(.tup [(.str "write"), (.int 0)]), (.tup [(.str "beneath"), .non])])])), ((.tup [(.tup [.none, (.num 1), (.num 0)]), (.tup [.none, (.num 0)])]), (.tup [(.tup [.non, (.int 1), (.int 0)]), (.tup [.non, (.int 0)])]), (.tup [(.int 0), (.tup [(.tup [(.str "write"), (.int 1)]), (.tup [(.str "beneath"), (.int 0)])])])), ((.tup [(.tup [.none, (.num 1), .none]), (.tup [.none, .none])]), (.tup [(.tup [.non, (.int 1), .non]), (.tup [.non, .non])]), (.tup [(.int 0), (.tup [(.tup [(.str "write"), (.int 1)]), (.tup [(.str "beneath"), .non])])]))]), (.lst [(.tup [(.tup [.non, .non, .non]), (.tup [.non, .non])]), (.tup [(.tup [.non, (.int 0), (.int 0)]), (.tup [.non, (.int 0)])]), (.tup [(.tup [.non, (.int 1), (.int 1)]), (.tup [.non, (.int 1)])]), (.tup [(.tup [.non, .non, (.int 0)]), (.tup [.non, (.int 0)])]), (.tup [(.tup [.non, .non, (.int 1)]), (.tup [.non, (.int 1)])]), (.tup [(.tup [.non, (.int 0), (.int 1)]), (.tup [.non, (.int 1)])]), (.tup [(.tup [.non, (.int 0), .non]), (.tup [.non, .non])]), (.tup [(.tup [.non, (.int 1), (.int 0)]), (.tup [.non, (.int 0)])]), (.tup [(.tup [.non, (.int 1), .non]), (.tup [.non, .non])])]), (.ins 2 [(.int 0), (.tup [(.tup [(.str "write"), (.int 0)]), (.tup [(.str "beneath"), (.int 1)]), (.tup [(.str "ask")])])]), (.lst [(.loc 70), (.loc 71), (.loc 72)]), (.dct false []), (.dct false []), (.dct false []), (.lst [(.tup [(.str "both"), (.str "both"), (.str "look"), .non]), (.tup [(.str "here"), (.str "here"), (.str "look"), .non])]), (.lst [(.loc 71), (.loc 72)]), (.ins 0 [(.tup [(.tup [(.str "both"), (.str "both"), (.str "look"), .non]), (.tup [(.str "here"), (.str "here"), (.str "look"), .non])]), (.loc 81)]), (.lst [(.bl true), (.bl true)]), (.lst [(.bl true), (.bl true)]), (.lst []), (.lst []), (.lst []), (.dct false []), (.lst []), (.lst []), (.lst []), (.lst []), (.lst []), (.lst []), (.dtn false [((.tup [(.tup [.none, .none, .none]), (.tup [.none, .none])]), (.tup [(.tup [.non, .non, .non]), (.tup [.non, .non])]), (.int 0))]), (.dct false []), (.lst [(.int 0)]), (.lst [(.int 0)]), (.dtn false [((.tup [(.tup [.none, .none, .none]), (.tup [.none, .none])]), (.tup [(.tup [.non, .non, .non]), (.tup [.non, .non])]), (.tup [(.int 0), (.tup [])])), ((.tup [(.tup [.none, (.num 0), (.num 0)]), (.tup [(.num 0), (.num 0)])]), (.tup [(.tup [.non, (.int 0), (.int 0)]), (.tup [(.int 0), (.int 0)])]), (.tup [(.int 0), (.tup [(.tup [(.str "write"), (.int 0)])])])), ((.tup [(.tup [.none, (.num 1), (.num 1)]), (.tup [(.num 1), (.num 1)])]), (.tup [(.tup [.non, (.int 1), (.int 1)]), (.tup [(.int 1), (.int 1)])]), (.tup [(.int 0), (.tup [(.tup [(.str "write"), (.int 1)])])])), ((.tup [(.tup [.none, .none, (.num 0)]), (.tup [.none, (.num 0)])]), (.tup [(.tup [.non, .non, (.int 0)]), (.tup [.non, (.int 0)])]), (.tup [(.int 0), (.tup [(.tup [(.str "beneath"), (.int 0)])])])), ((.tup [(.tup [.none, .none, (.num 1)]), (.tup [.none, (.num 1)])]), (.tup [(.tup [.non, .non, (.int 1)]), (.tup [.non, (.int 1)])]), (.tup [(.int 0), (.tup [(.tup [(.str "beneath"), (.int 1)])])])), ((.tup [(.tup [.none, (.num 0), (.num 1)]), (.tup [(.num 0), (.num 1)])]), (.tup [(.tup [.non, (.int 0), (.int 1)]), (.tup [(.int 0), (.int 1)])]), (.tup [(.int 0), (.tup [(.tup [(.str "write"), (.int 0)]), (.tup [(.str "beneath"), (.int 1)])])])), ((.tup [(.tup [.none, (.num 0), .none]), (.tup [(.num 0), .none])]), (.tup [(.tup [.non, (.int 0), .non]), (.tup [(.int 0), .non])]), (.tup [(.int 0), (.tup [(.tup [(.str "write"), (.int 0)]), (.tup [(.str "beneath"), .non])])])), ((.tup [(.tup [.none, (.num 1), (.num 0)]), (.tup [(.num 1), (.num 0)])]), (.tup [(.tup [.non, (.int 1), (.int 0)]), (.tup [(.int 1), (.int 0)])]), (.tup [(.int 0), (.tup [(.tup [(.str "write"), (.int 1)]), (.tup [(.str "beneath"), (.int 0)])])])), ((.tup [(.tup [.none, (.num 1), .none]), (.tup [(.num 1), .none])]), (.tup [(.tup [.non, (.int 1), .non]), (.tup [(.int 1), .non])]), (.tup [(.int 0), (.tup [(.tup [(.str "write"), (.int 1)]), (.tup [(.str "beneath"), .non])])]))]), (.lst [(.tup [(.tup [.non, .non, .non]), (.tup [.non, .non])]), (.tup [(.tup [.non, (.int 0), (.int 0)]), (.tup [(.int 0), (.int 0)])]), (.tup [(.tup [.non, (.int 1), (.int 1)]), (.tup [(.int 1), (.int 1)])]), (.tup [(.tup [.non, .non, (.int 0)]), (.tup [.non, (.int 0)])]), (.tup [(.tup [.non, .non, (.int 1)]), (.tup [.non, (.int 1)])]), (.tup [(.tup [.non, (.int 0), (.int 1)]), (.tup [(.int 0), (.int 1)])]), (.tup [(.tup [.non, (.int 0), .non]), (.tup [(.int 0), .non])]), (.tup [(.tup [.non, (.int 1), (.int 0)]), (.tup [(.int 1), (.int 0)])]), (.tup [(.tup [.non, (.int 1), .non]), (.tup [(.int 1), .non])])]), (.ins 1 [(.loc 95)]), (.lst [(.tup [(.tup [.non, .non, .non]), (.tup [.non, .non])]), (.tup [(.tup [.non, (.int 0), (.int 0)]), (.tup [(.int 0), (.int 0)])]), (.tup [(.tup [.non, (.int 1), (.int 1)]), (.tup [(.int 1), (.int 1)])]), (.tup [(.tup [.non, .non, (.int 0)]), (.tup [.non, (.int 0)])]), (.tup [(.tup [.non, .non, (.int 1)]), (.tup [.non, (.int 1)])]), (.tup [(.tup [.non, (.int 0), (.int 1)]), (.tup [(.int 0), (.int 1)])]), (.tup [(.tup [.non, (.int 0), .non]), (.tup [(.int 0), .non])]), (.tup [(.tup [.non, (.int 1), (.int 0)]), (.tup [(.int 1), (.int 0)])]), (.tup [(.tup [.non, (.int 1), .non]), (.tup [(.int 1), .non])])]), (.dtn false [((.tup [(.num 2)]), (.tup [(.int 2)]), (.tup [(.int 0), (.tup [(.tup [(.str "write"), (.int 0)]), (.tup [(.str "beneath"), (.int 1)]), (.tup [(.str "ask")])])]))]), (.ins 3 [(.tup [(.int 1), (.int 2)]), (.loc 98), (.loc 99)]), (.lst [(.tup [(.tup [.non, .non, .non]), (.tup [.non, .non])]), (.tup [(.tup [.non, (.int 0), (.int 0)]), (.tup [(.int 0), (.int 0)])]), (.tup [(.tup [.non, (.int 1), (.int 1)]), (.tup [(.int 1), (.int 1)])]), (.tup [(.tup [.non, .non, (.int 0)]), (.tup [.non, (.int 0)])]), (.tup [(.tup [.non, .non, (.int 1)]), (.tup [.non, (.int 1)])]), (.tup [(.tup [.non, (.int 0), (.int 1)]), (.tup [(.int 0), (.int 1)])]), (.tup [(.tup [.non, (.int 0), .non]), (.tup [(.int 0), .non])]), (.tup [(.tup [.non, (.int 1), (.int 0)]), (.tup [(.int 1), (.int 0)])]), (.tup [(.tup [.non, (.int 1), .non]), (.tup [(.int 1), .non])])]), (.dtn false [((.tup [(.num 2)]), (.tup [(.int 2)]), (.tup [(.int 0), (.tup [(.tup [(.str "write"), (.int 0)]), (.tup [(.str "beneath"), (.int 1)]), (.tup [(.str "ask")])])]))]), (.ins 0 [(.tup [(.tup [(.str "here"), (.str "here"), (.str "look"), (.tup [(.str "told"), (.int 1)])]), (.tup [(.str "here"), (.str "here"), (.str "look"), (.tup [(.str "told"), (.int 1)])])]), (.loc 107)]), (.lst [(.bl true), (.bl true)]), (.dct false []), (.lst [(.bl true), (.bl true)]), (.lst []), (.lst []), (.lst []), (.dct false [])]
theorem st_law_fewest_right_9 : b__law_fewest_right_9 u_law_fewest_right_8 S_law_fewest_right_8 = .ok .nx u_law_fewest_right_9 S_law_fewest_right_9 := by kernel_rfl
def u_law_fewest_right_10 : Sl := [some (.tup [(.str "here"), (.str "here"), (.str "look"), .non]), some (.tup [(.str "both"), (.str "both"), (.str "look"), .non]), some (.tup [(.str "down"), (.str "down"), (.str "look"), .non]), some (.loc 0), some (.loc 9), some (.loc 98), some (.loc 100)]
def S_law_fewest_right_10 : Sto := [(.ins 0 [(.tup [(.tup [(.str "down"), (.str "down"), (.str "look"), .non]), (.tup [(.str "both"), (.str "both"), (.str "look"), .non]), (.tup [(.str "here"), (.str "here"), (.str "look"), .non])]), (.loc 8)]), (.lst [(.bl true), (.bl true), (.bl true)]), (.dct false []), (.lst [(.bl true), (.bl true), (.bl true)]), (.lst []), (.lst []), (.lst []), (.lst []), (.dct false []), (.dtn false [((.tup [(.num 2)]), (.tup [(.int 2)]), (.tup [(.int 0), (.tup [(.tup [(.str "write"), (.int 1)]), (.tup [(.str "beneath"), (.int 0)]), (.tup [(.str "ask")])])]))]), (.lst [(.tup [])]), (.lst [(.tup [(.int 0)])]), (.lst [(.tup []), (.tup [(.int 0)])]), (.lst [(.tup [(.int 1)]), (.tup [(.int 0), (.int 1)])]), (.lst [(.tup []), (.tup [(.int 0)]), (.tup [(.int 1)]), (.tup [(.int 0), (.int 1)])]), (.lst [(.tup [(.int 2)]), (.tup [(.int 0), (.int 2)]), (.tup [(.int 1), (.int 2)]), (.tup [(.int 0), (.int 1), (.int 2)])]), (.lst [(.tup [(.int 2)]), (.tup [(.int 0), (.int 2)]), (.tup [(.int 1), (.int 2)]), (.tup [(.int 0), (.int 1), (.int 2)])]), (.dtn false [((.tup [(.num 2)]), (.tup [(.int 2)]), (.tup [(.int 0), (.tup [(.tup [(.str "write"), (.int 0)]), (.tup [(.str "beneath"), (.int 1)]), (.tup [(.str "ask")])])])), ((.tup [(.num 0), (.num 2)]), (.tup [(.int 0), (.int 2)]), (.tup [(.int 0), (.tup [(.tup [(.str "write"), (.int 0)]), (.tup [(.str "beneath"), (.int 1)]), (.tup [(.str "ask")])])]))]), (.lst [(.loc 19), (.loc 20), (.loc 21)]), (.dct false []), (.dct false []), (.dct false []), (.lst [(.tup [(.str "here"), (.str "here"), (.str "look"), .non])]), (.lst [(.loc 21)]), (.ins 0 [(.tup [(.tup [(.str "here"), (.str "here"), (.str "look"), .non])]), (.loc 29)]), (.lst [(.bl true)]), (.lst [(.bl true)]), (.lst []), (.lst []), (.dct false []), (.lst []), (.lst []), (.lst []), (.lst []), (.lst []), (.lst []), (.dtn false [((.tup [(.tup [.none, .none, .none]), (.tup [.none])]), (.tup [(.tup [.non, .non, .non]), (.tup [.non])]), (.int 0))]), (.dct false []), (.lst [(.int 0)]), (.lst [(.int 0)]), (.dtn false [((.tup [(.tup [.none, .none, .none]), (.tup [.none])]), (.tup [(.tup [.non, .non, .non]), (.tup [.non])]), (.tup [(.int 0), (.tup [])])), ((.tup [(.tup [.none, (.num 0), (.num 0)]), (.tup [(.num 0)])]), (.tup [(.tup [.non, (.int 0), (.int 0)]), (.tup [(.int 0)])]), (.tup [(.int 0), (.tup [(.tup [(.str "write"), (.int 0)])])])), ((.tup [(.tup [.none, (.num 1), (.num 1)]), (.tup [(.num 1)])]), (.tup [(.tup [.non, (.int 1), (.int 1)]), (.tup [(.int 1)])]), (.tup [(.int 0), (.tup [(.tup [(.str "write"), (.int 1)])])])), ((.tup [(.tup [.none, .none, (.num 0)]), (.tup [(.num 0)])]), (.tup [(.tup [.non, .non, (.int 0)]), (.tup [(.int 0)])]), (.tup [(.int 0), (.tup [(.tup [(.str "beneath"), (.int 0)])])])), ((.tup [(.tup [.none, .none, (.num 1)]), (.tup [(.num 1)])]), (.tup [(.tup [.non, .non, (.int 1)]), (.tup [(.int 1)])]), (.tup [(.int 0), (.tup [(.tup [(.str "beneath"), (.int 1)])])])), ((.tup [(.tup [.none, (.num 0), (.num 1)]), (.tup [(.num 1)])]), (.tup [(.tup [.non, (.int 0), (.int 1)]), (.tup [(.int 1)])]), (.tup [(.int 0), (.tup [(.tup [(.str "write"), (.int 0)]), (.tup [(.str "beneath"), (.int 1)])])])), ((.tup [(.tup [.none, (.num 0), .none]), (.tup [.none])]), (.tup [(.tup [.non, (.int 0), .non]), (.tup [.non])]), (.tup [(.int 0), (.tup [(.tup [(.str "write"), (.int 0)]), (.tup [(.str "beneath"), .non])])])), ((.tup [(.tup [.none, (.num 1), (.num 0)]), (.tup [(.num 0)])]), (.tup [(.tup [.non, (.int 1), (.int 0)]), (.tup [(.int 0)])]), (.tup [(.int 0), (.tup [(.tup [(.str "write"), (.int 1)]), (.tup [(.str "beneath"), (.int 0)])])])), ((.tup [(.tup [.none, (.num 1), .none]), (.tup [.none])]), (.tup [(.tup [.non, (.int 1), .non]), (.tup [.non])]), (.tup [(.int 0), (.tup [(.tup [(.str "write"), (.int 1)]), (.tup [(.str "beneath"), .non])])]))]), (.lst [(.tup [(.tup [.non, .non, .non]), (.tup [.non])]), (.tup [(.tup [.non, (.int 0), (.int 0)]), (.tup [(.int 0)])]), (.tup [(.tup [.non, (.int 1), (.int 1)]), (.tup [(.int 1)])]), (.tup [(.tup [.non, .non, (.int 0)]), (.tup [(.int 0)])]), (.tup [(.tup [.non, .non, (.int 1)]), (.tup [(.int 1)])]), (.tup [(.tup [.non, (.int 0), (.int 1)]), (.tup [(.int 1)])]), (.tup [(.tup [.non, (.int 0), .non]), (.tup [.non])]), (.tup [(.tup [.non, (.int 1), (.int 0)]), (.tup [(.int 0)])]), (.tup [(.tup [.non, (.int 1), .non]), (.tup [.non])])]), (.ins 2 [(.int 0), (.tup [(.tup [(.str "write"), (.int 0)]), (.tup [(.str "beneath"), (.int 1)]), (.tup [(.str "ask")])])]), (.lst [(.loc 44), (.loc 45), (.loc 46)]), (.dct false []), (.dct false []), (.dct false []), (.lst [(.tup [(.str "down"), (.str "down"), (.str "look"), .non]), (.tup [(.str "here"), (.str "here"), (.str "look"), .non])]), (.lst [(.loc 44), (.loc 46)]), (.ins 0 [(.tup [(.tup [(.str "down"), (.str "down"), (.str "look"), .non]), (.tup [(.str "here"), (.str "here"), (.str "look"), .non])]), (.loc 55)]), (.lst [(.bl true), (.bl true)]), (.lst [(.bl true), (.bl true)]), (.lst []), (.lst []), (.lst []), (.dct false []), (.lst []), (.lst []), (.lst []), (.lst []), (.lst []), (.lst []), (.dtn false [((.tup [(.tup [.none, .none, .none]), (.tup [.none, .none])]), (.tup [(.tup [.non, .non, .non]), (.tup [.non, .non])]), (.int 0))]), (.dct false []), (.lst [(.int 0)]), (.lst [(.int 0)]), (.dtn false [((.tup [(.tup [.none, .none, .none]), (.tup [.none, .none])]), (.tup [(.tup [.non, .non, .non]), (.tup [.non, .non])]), (.tup [(.int 0), (.tup [])])), ((.tup [(.tup [.none, (.num 0), (.num 0)]), (.tup [.none, (.num 0)])]), (.tup [(.tup [.non, (.int 0), (.int 0)]), (.tup [.non, (.int 0)])]), (.tup [(.int 0), (.tup [(.tup [(.str "write"), (.int 0)])])])), ((.tup [(.tup [.none, (.num 1), (.num 1)]), (.tup [.none, (.num 1)])]), (.tup [(.tup [.non, (.int 1), (.int 1)]), (.tup [.non, (.int 1)])]), (.tup [(.int 0), (.tup [(.tup [(.str "write"), (.int 1)])])])), ((.tup [(.tup [.none, .none, (.num 0)]), (.tup [.none, (.num 0)])]), (.tup [(.tup [.non, .non, (.int 0)]), (.tup [.non, (.int 0)])]), (.tup [(.int 0), (.tup [(.tup [(.str "beneath"), (.int 0)])])])), ((.tup [(.tup [.none, .none, (.num 1)]), (.tup [.none, (.num 1)])]), (.tup [(.tup [.non, .non, (.int 1)]), (.tup [.non, (.int 1)])]), (.tup [(.int 0), (.tup [(.tup [(.str "beneath"), (.int 1)])])])), ((.tup [(.tup [.none, (.num 0), (.num 1)]), (.tup [.none, (.num 1)])]), (.tup [(.tup [.non, (.int 0), (.int 1)]), (.tup [.non, (.int 1)])]), (.tup [(.int 0), (.tup [(.tup [(.str "write"), (.int 0)]), (.tup [(.str "beneath"), (.int 1)])])])), ((.tup [(.tup [.none, (.num 0), .none]), (.tup [.none, .none])]), (.tup [(.tup [.non, (.int 0), .non]), (.tup [.non, .non])]), (.tup [(.int 0), (.tup [(.tup [(.str "write"), (.int 0)]), (.tup [(.str "beneath"), .non])])])), ((.tup [(.tup [.none, (.num 1), (.num 0)]), (.tup [.none, (.num 0)])]), (.tup [(.tup [.non, (.int 1), (.int 0)]), (.tup [.non, (.int 0)])]), (.tup [(.int 0), (.tup [(.tup [(.str "write"), (.int 1)]), (.tup [(.str "beneath"), (.int 0)])])])), ((.tup [(.tup [.none, (.num 1), .none]), (.tup [.none, .none])]), (.tup [(.tup [.non, (.int 1), .non]), (.tup [.non, .non])]), (.tup [(.int 0), (.tup [(.tup [(.str "write"), (.int 1)]), (.tup [(.str "beneath"), .non])])]))]), (.lst [(.tup [(.tup [.non, .non, .non]), (.tup [.non, .non])]), (.tup [(.tup [.non, (.int 0), (.int 0)]), (.tup [.non, (.int 0)])]), (.tup [(.tup [.non, (.int 1), (.int 1)]), (.tup [.non, (.int 1)])]), (.tup [(.tup [.non, .non, (.int 0)]), (.tup [.non, (.int 0)])]), (.tup [(.tup [.non, .non, (.int 1)]), (.tup [.non, (.int 1)])]), (.tup [(.tup [.non, (.int 0), (.int 1)]), (.tup [.non, (.int 1)])]), (.tup [(.tup [.non, (.int 0), .non]), (.tup [.non, .non])]), (.tup [(.tup [.non, (.int 1), (.int 0)]), (.tup [.non, (.int 0)])]), (.tup [(.tup [.non, (.int 1), .non]), (.tup [.non, .non])])]), (.ins 2 [(.int 0), (.tup [(.tup [(.str "write"), (.int 0)]), (.tup [(.str "beneath"), (.int 1)]), (.tup [(.str "ask")])])]), (.lst [(.loc 70), (.loc 71), (.loc 72)]), (.dct false []), (.dct false []), (.dct false []), (.lst [(.tup [(.str "both"), (.str "both"), (.str "look"), .non]), (.tup [(.str "here"), (.str "here"), (.str "look"), .non])]), (.lst [(.loc 71), (.loc 72)]), (.ins 0 [(.tup [(.tup [(.str "both"), (.str "both"), (.str "look"), .non]), (.tup [(.str "here"), (.str "here"), (.str "look"), .non])]), (.loc 81)]), (.lst [(.bl true), (.bl true)]), (.lst [(.bl true), (.bl true)]), (.lst []), (.lst []), (.lst []), (.dct false []), (.lst []), (.lst []), (.lst []), (.lst []), (.lst []), (.lst []), (.dtn false [((.tup [(.tup [.none, .none, .none]), (.tup [.none, .none])]), (.tup [(.tup [.non, .non, .non]), (.tup [.non, .non])]), (.int 0))]), (.dct false []), (.lst [(.int 0)]), (.lst [(.int 0)]), (.dtn false [((.tup [(.tup [.none, .none, .none]), (.tup [.none, .none])]), (.tup [(.tup [.non, .non, .non]), (.tup [.non, .non])]), (.tup [(.int 0), (.tup [])])), ((.tup [(.tup [.none, (.num 0), (.num 0)]), (.tup [(.num 0), (.num 0)])]), (.tup [(.tup [.non, (.int 0), (.int 0)]), (.tup [(.int 0), (.int 0)])]), (.tup [(.int 0), (.tup [(.tup [(.str "write"), (.int 0)])])])), ((.tup [(.tup [.none, (.num 1), (.num 1)]), (.tup [(.num 1), (.num 1)])]), (.tup [(.tup [.non, (.int 1), (.int 1)]), (.tup [(.int 1), (.int 1)])]), (.tup [(.int 0), (.tup [(.tup [(.str "write"), (.int 1)])])])), ((.tup [(.tup [.none, .none, (.num 0)]), (.tup [.none, (.num 0)])]), (.tup [(.tup [.non, .non, (.int 0)]), (.tup [.non, (.int 0)])]), (.tup [(.int 0), (.tup [(.tup [(.str "beneath"), (.int 0)])])])), ((.tup [(.tup [.none, .none, (.num 1)]), (.tup [.none, (.num 1)])]), (.tup [(.tup [.non, .non, (.int 1)]), (.tup [.non, (.int 1)])]), (.tup [(.int 0), (.tup [(.tup [(.str "beneath"), (.int 1)])])])), ((.tup [(.tup [.none, (.num 0), (.num 1)]), (.tup [(.num 0), (.num 1)])]), (.tup [(.tup [.non, (.int 0), (.int 1)]), (.tup [(.int 0), (.int 1)])]), (.tup [(.int 0), (.tup [(.tup [(.str "write"), (.int 0)]), (.tup [(.str "beneath"), (.int 1)])])])), ((.tup [(.tup [.none, (.num 0), .none]), (.tup [(.num 0), .none])]), (.tup [(.tup [.non, (.int 0), .non]), (.tup [(.int 0), .non])]), (.tup [(.int 0), (.tup [(.tup [(.str "write"), (.int 0)]), (.tup [(.str "beneath"), .non])])])), ((.tup [(.tup [.none, (.num 1), (.num 0)]), (.tup [(.num 1), (.num 0)])]), (.tup [(.tup [.non, (.int 1), (.int 0)]), (.tup [(.int 1), (.int 0)])]), (.tup [(.int 0), (.tup [(.tup [(.str "write"), (.int 1)]), (.tup [(.str "beneath"), (.int 0)])])])), ((.tup [(.tup [.none, (.num 1), .none]), (.tup [(.num 1), .none])]), (.tup [(.tup [.non, (.int 1), .non]), (.tup [(.int 1), .non])]), (.tup [(.int 0), (.tup [(.tup [(.str "write"), (.int 1)]), (.tup [(.str "beneath"), .non])])]))]), (.lst [(.tup [(.tup [.non, .non, .non]), (.tup [.non, .non])]), (.tup [(.tup [.non, (.int 0), (.int 0)]), (.tup [(.int 0), (.int 0)])]), (.tup [(.tup [.non, (.int 1), (.int 1)]), (.tup [(.int 1), (.int 1)])]), (.tup [(.tup [.non, .non, (.int 0)]), (.tup [.non, (.int 0)])]), (.tup [(.tup [.non, .non, (.int 1)]), (.tup [.non, (.int 1)])]), (.tup [(.tup [.non, (.int 0), (.int 1)]), (.tup [(.int 0), (.int 1)])]), (.tup [(.tup [.non, (.int 0), .non]), (.tup [(.int 0), .non])]), (.tup [(.tup [.non, (.int 1), (.int 0)]), (.tup [(.int 1), (.int 0)])]), (.tup [(.tup [.non, (.int 1), .non]), (.tup [(.int 1), .non])])]), (.ins 1 [(.loc 95)]), (.lst [(.tup [(.tup [.non, .non, .non]), (.tup [.non, .non])]), (.tup [(.tup [.non, (.int 0), (.int 0)]), (.tup [(.int 0), (.int 0)])]), (.tup [(.tup [.non, (.int 1), (.int 1)]), (.tup [(.int 1), (.int 1)])]), (.tup [(.tup [.non, .non, (.int 0)]), (.tup [.non, (.int 0)])]), (.tup [(.tup [.non, .non, (.int 1)]), (.tup [.non, (.int 1)])]), (.tup [(.tup [.non, (.int 0), (.int 1)]), (.tup [(.int 0), (.int 1)])]), (.tup [(.tup [.non, (.int 0), .non]), (.tup [(.int 0), .non])]), (.tup [(.tup [.non, (.int 1), (.int 0)]), (.tup [(.int 1), (.int 0)])]), (.tup [(.tup [.non, (.int 1), .non]), (.tup [(.int 1), .non])])]), (.dtn false [((.tup [(.num 2)]), (.tup [(.int 2)]), (.tup [(.int 0), (.tup [(.tup [(.str "write"), (.int 0)]), (.tup [(.str "beneath"), (.int 1)]), (.tup [(.str "ask")])])]))]), (.ins 3 [(.tup [(.int 1), (.int 2)]), (.loc 98), (.loc 99)]), (.lst [(.tup [(.tup [.non, .non, .non]), (.tup [.non, .non])]), (.tup [(.tup [.non, (.int 0), (.int 0)]), (.tup [(.int 0), (.int 0)])]), (.tup [(.tup [.non, (.int 1), (.int 1)]), (.tup [(.int 1), (.int 1)])]), (.tup [(.tup [.non, .non, (.int 0)]), (.tup [.non, (.int 0)])]), (.tup [(.tup [.non, .non, (.int 1)]), (.tup [.non, (.int 1)])]), (.tup [(.tup [.non, (.int 0), (.int 1)]), (.tup [(.int 0), (.int 1)])]), (.tup [(.tup [.non, (.int 0), .non]), (.tup [(.int 0), .non])]), (.tup [(.tup [.non, (.int 1), (.int 0)]), (.tup [(.int 1), (.int 0)])]), (.tup [(.tup [.non, (.int 1), .non]), (.tup [(.int 1), .non])])]), (.dtn false [((.tup [(.num 2)]), (.tup [(.int 2)]), (.tup [(.int 0), (.tup [(.tup [(.str "write"), (.int 0)]), (.tup [(.str "beneath"), (.int 1)]), (.tup [(.str "ask")])])]))]), (.ins 0 [(.tup [(.tup [(.str "here"), (.str "here"), (.str "look"), (.tup [(.str "told"), (.int 1)])]), (.tup [(.str "here"), (.str "here"), (.str "look"), (.tup [(.str "told"), (.int 1)])])]), (.loc 107)]), (.lst [(.bl true), (.bl true)]), (.dct false []), (.lst [(.bl true), (.bl true)]), (.lst []), (.lst []), (.lst []), (.dct false [])]
theorem st_law_fewest_right_10 : b__law_fewest_right_10 u_law_fewest_right_9 S_law_fewest_right_9 = .ok .nx u_law_fewest_right_10 S_law_fewest_right_10 := by kernel_rfl
theorem st_law_fewest_right_11 : isRt (b__law_fewest_right_11 u_law_fewest_right_10 S_law_fewest_right_10) = true := by decide +kernel
theorem ch_law_fewest_right : b__law_fewest_right u_law_fewest_right_s [] = b__law_fewest_right_11 u_law_fewest_right_10 S_law_fewest_right_10 := by
  unfold b__law_fewest_right
  rw [seq_step st_law_fewest_right_0, seq_step st_law_fewest_right_1, seq_step st_law_fewest_right_2, seq_step st_law_fewest_right_3, seq_step st_law_fewest_right_4, seq_step st_law_fewest_right_5, seq_step st_law_fewest_right_6, seq_step st_law_fewest_right_7, seq_step st_law_fewest_right_8, seq_step st_law_fewest_right_9, seq_step st_law_fewest_right_10]
theorem t_law_fewest_right : isT (m__law_fewest_right [] []) = true := by
  have e : m__law_fewest_right [] [] = endD (b__law_fewest_right u_law_fewest_right_s []) := by kernel_rfl
  rw [e, ch_law_fewest_right]
  exact rt_t st_law_fewest_right_11
end K6
set_option Elab.async false
set_option autoImplicit false
set_option linter.all false
set_option maxRecDepth 100000
set_option maxHeartbeats 40000000
namespace K6
open PySem L2 Mi
theorem gc0 {r : R D} (h : isT r = true) : gcR clD 0 r = .ok (.bl true) [] := by
  cases r with
  | bad => cases h
  | ex c fs S => cases h
  | ok d S =>
    cases d <;> cases h
    rfl
theorem deeds_t : ∀ k : Int, 0 ≤ k → k < 9 → isT (m__law_deeds_right [.int (1 + k)] []) = true := by
  intro k h0 h1
  obtain ⟨n, rfl⟩ := Int.eq_ofNat_of_zero_le h0
  have hn : n < 9 := by omega
  match n, hn with
  | 0, _ => exact (by decide +kernel : isT (m__law_deeds_right [.int 1] []) = true)
  | 1, _ => exact (by decide +kernel : isT (m__law_deeds_right [.int 2] []) = true)
  | 2, _ => exact (by decide +kernel : isT (m__law_deeds_right [.int 3] []) = true)
  | 3, _ => exact (by decide +kernel : isT (m__law_deeds_right [.int 4] []) = true)
  | 4, _ => exact (by decide +kernel : isT (m__law_deeds_right [.int 5] []) = true)
  | 5, _ => exact (by decide +kernel : isT (m__law_deeds_right [.int 6] []) = true)
  | 6, _ => exact (by decide +kernel : isT (m__law_deeds_right [.int 7] []) = true)
  | 7, _ => exact (by decide +kernel : isT (m__law_deeds_right [.int 8] []) = true)
  | 8, _ => exact (by decide +kernel : isT (m__law_deeds_right [.int 9] []) = true)
  | n + 9, h => exact absurd h (by omega)
theorem ints_of : ∀ l : List Int, intsD (l.map D.int) = some l
  | [] => rfl
  | i :: l => by
    rw [List.map_cons]
    unfold intsD
    rw [ints_of l]
    rfl
theorem cut_of (l : List Int) (lo hi : Option Int) : ∃ c : List Int, cutD (l.map D.int) lo hi = c.map D.int := by
  unfold cutD
  exact ⟨_, by rw [← List.map_drop, ← List.map_take]⟩
theorem mod_at {i j : Int} {S : Sto} (h : j ≠ 0) : opMod (.int i) (.int j) S = .ok (.int (i.fmod j)) S := if_pos h
theorem fb_one {f : DN} {A : Sl → Sto → R D} {σ : Sl} {S S1 : Sto} {d : D} (h : A σ S = .ok d S1) : FB f (ACons A ANil) σ S = f [d] S1 := by
  have e : ACons A ANil σ S = .ok [d] S1 := by
    unfold ACons
    rw [h]
    rfl
  unfold FB
  rw [e]
  rfl
theorem f2_ev {f : D2} {A B : Sl → Sto → R D} {σ : Sl} {S S1 S2 : Sto} {a b : D} (h : A σ S = .ok a S1) (h2 : B σ S1 = .ok b S2) : F2 f A B σ S = f a b S2 := by
  unfold F2
  rw [h]
  dsimp only [R.to]
  rw [h2]
theorem many_ev (l : List Int) : ∃ k : Int, 0 ≤ k ∧ k < 9 ∧ FGc (F2 opAdd (FC (.int 1)) (F2 opMod (FB fnInt (ACons (FB fnSum (ACons (FSl (FVar 0) PN (PI_ (FC (.int 63)))) ANil)) ANil)) (FC (.int 9)))) [some (.fl (l.map D.int)), none] [] = .ok (.int (1 + k)) [] := by
  obtain ⟨c, hc⟩ := cut_of l none (some 63)
  refine ⟨c.sum.fmod 9, Int.fmod_nonneg_of_pos _ (by omega), Int.fmod_lt_of_pos _ (by omega), ?_⟩
  have e1 : FSl (FVar 0) PN (PI_ (FC (.int 63))) [some (.fl (l.map D.int)), none] [] = .ok (.loc 0) [.lst (c.map D.int)] := by
    show R.ok (D.loc 0) [O.lst (cutD (l.map D.int) none (some 63))] = _
    rw [hc]
  have e2 := fb_one (f := fnSum) e1
  rw [show fnSum [.loc 0] [.lst (c.map D.int)] = .ok (.int c.sum) [.lst (c.map D.int)] from by
    unfold fnSum
    dsimp only [List.getElem?_cons_zero]
    rw [ints_of c]] at e2
  have e3 := fb_one (f := fnInt) e2
  rw [show fnInt [.int c.sum] [.lst (c.map D.int)] = .ok (.int c.sum) [.lst (c.map D.int)] from rfl] at e3
  have e4 := f2_ev (f := opMod) (B := FC (.int 9)) e3 rfl
  rw [show opMod (.int c.sum) (.int 9) [.lst (c.map D.int)] = .ok (.int (c.sum.fmod 9)) [.lst (c.map D.int)] from mod_at (by decide)] at e4
  have e5 := f2_ev (f := opAdd) (A := FC (.int 1)) rfl e4
  unfold FGc
  rw [e5]
  rfl
abbrev NUM : Sl → Sto → R D := FGc (F2 opAdd (FC (.int 1)) (F2 opMod (FB fnInt (ACons (FB fnSum (ACons (FSl (FVar 0) PN (PI_ (FC (.int 63)))) ANil)) ANil)) (FC (.int 9))))
theorem all_ev {m1 m2 m3 : DN} {d : D} {k : Int} (e : NUM [some d, none] [] = .ok (.int (1 + k)) []) (h1 : gcR clD 0 (m1 [.int (1 + k)] []) = .ok (.bl true) []) (h2 : gcR clD 0 (m2 [] []) = .ok (.bl true) []) (h3 : gcR clD 0 (m3 [] []) = .ok (.bl true) []) :
    mFn 1 2 (SSeq (SAsg NUM (gN 1)) (SRet (FAnd (FGc (FB m1 (ACons (FVar 1) ANil))) (FAnd (FGc (FB m2 ANil)) (FGc (FB m3 ANil)))))) [d] [] = .ok (.bl true) [] := by
  have v : FVar 1 [some d, some (D.int (1 + k))] [] = .ok (.int (1 + k)) [] := rfl
  have f1 : FGc (FB m1 (ACons (FVar 1) ANil)) [some d, some (.int (1 + k))] [] = .ok (.bl true) [] := h1
  have f2 : FGc (FB m2 ANil) [some d, some (.int (1 + k))] [] = .ok (.bl true) [] := h2
  have f3 : FGc (FB m3 ANil) [some d, some (.int (1 + k))] [] = .ok (.bl true) [] := h3
  have f4 : FAnd (FGc (FB m1 (ACons (FVar 1) ANil))) (FAnd (FGc (FB m2 ANil)) (FGc (FB m3 ANil))) [some d, some (.int (1 + k))] [] = .ok (.bl true) [] := by
    unfold FAnd
    rw [f1]
    dsimp only [R.to]
    rw [f2]
    dsimp only [R.to]
    exact f3
  have g1 : SAsg NUM (gN 1) [some d, none] [] = .ok .nx [some d, some (.int (1 + k))] [] := by
    unfold SAsg
    rw [e]
    rfl
  show endD (SSeq (SAsg NUM (gN 1)) (SRet (FAnd (FGc (FB m1 (ACons (FVar 1) ANil))) (FAnd (FGc (FB m2 ANil)) (FGc (FB m3 ANil))))) [some d, none] []) = _
  unfold SSeq
  rw [g1]
  dsimp only
  unfold SRet
  rw [f4]
  rfl
theorem top_ev {m : DN} {d : D} (hd : FVar 0 [some d] [] = .ok d []) (h : m [d] [] = .ok (.bl true) []) : mFn 1 1 (STry0 (SRet (FB m (ACons (FVar 0) ANil)))) [d] [] = .ok (.bl true) [] := by
  have q : SRet (FB m (ACons (FVar 0) ANil)) [some d] [] = .ok (.rt (.bl true)) [some d] [] := by
    have e1 : FB m (ACons (FVar 0) ANil) [some d] [] = .ok (.bl true) [] := by
      unfold FB ACons
      rw [hd]
      exact h
    unfold SRet
    rw [e1]
    rfl
  show endD (STry0 (SRet (FB m (ACons (FVar 0) ANil))) [some d] []) = _
  unfold STry0
  rw [q]
  rfl
theorem law_true (ns : List Int) (_ : ns.length ≤ 63) : ∃ S, m_law [.fl (ns.map D.int)] [] = .ok (.bl true) S := by
  obtain ⟨k, h0, h1, e⟩ := many_ev ns
  refine ⟨[], ?_⟩
  unfold m_law b_law
  refine top_ev rfl ?_
  unfold m__law_all_right b__law_all_right
  exact all_ev e (gc0 (deeds_t k h0 h1)) (gc0 t_law_alike_right) (gc0 t_law_fewest_right)
end K6
set_option Elab.async false
set_option autoImplicit false
set_option linter.all false
set_option maxRecDepth 100000
set_option maxHeartbeats 0

namespace K6
open PySem L2 Mi
def loose0 : List Str := [("_wall" : Str), ("HIDDEN" : Str), ("WRITES" : Str), ("FORGETS" : Str), ("READS" : Str), ("HOOKS" : Str), ("BARE_DEEDS" : Str), ("MOST_LAYERS" : Str), ("is_integer" : Str), ("is_word" : Str), ("is_hook" : Str), ("is_layer" : Str), ("are_layers" : Str), ("is_held" : Str), ("are_pairs" : Str), ("is_content" : Str), ("are_contents" : Str), ("is_column" : Str), ("is_deed" : Str), ("WRITE" : Str)]
def loose1 : List Str := [("FORGET" : Str), ("READ" : Str), ("HOOK" : Str), ("done" : Str), ("done_in_turn" : Str), ("placed" : Str), ("is_base" : Str), ("looks_down" : Str), ("seen" : Str), ("asked" : Str), ("kept" : Str), ("hooked" : Str), ("written" : Str), ("forgotten" : Str), ("removed" : Str), ("LayerError" : Str), ("BadStack" : Str), ("BadKey" : Str), ("BadValue" : Str), ("Missing" : Str)]
def loose2 : List Str := [("BadDeed" : Str), ("PLAIN_LAYER" : Str), ("check_key" : Str), ("check_stack" : Str), ("columns_of" : Str), ("Stack" : Str), ("flat" : Str), ("OWN_DEEDS" : Str), ("SHARED_DEEDS" : Str), ("Alike" : Str), ("Parts" : Str), ("alike" : Str), ("compared" : Str), ("soonest" : Str), ("count_of_deeds" : Str), ("is_flat" : Str), ("check_both" : Str), ("compared_deeds" : Str), ("are_deeds" : Str), ("can_part" : Str)]
def loose3 : List Str := [("first_pairs" : Str), ("unheld_key" : Str), ("pair_after" : Str), ("is_pair" : Str), ("is_closed" : Str), ("last_answer" : Str), ("Fewest" : Str), ("fewest" : Str), ("fewest_size" : Str), ("all_choices" : Str), ("is_choice" : Str), ("are_fewer" : Str), ("is_parted" : Str), ("_law_deeds_right" : Str), ("_law_alike_right" : Str), ("_law_fewest_right" : Str), ("_law_all_right" : Str)]
def loose : List Str := loose0 ++ loose1 ++ loose2 ++ loose3
abbrev RR : PySem.W.OpenRow := PySem.W.OpenLaw.row PySem.Challenge.rw_layermap_k06_known
abbrev hk : PySem.W.Hook := hookM 5 fn ex
def ob (s : PySem.W.SharedT) : He.AlD := obsMG 5 fn ex (HandSHeadRun.getT s)
theorem ob_eq (s : PySem.W.SharedT) : ob s = hk.obs s.abs := by
  have e : HandSHeadRun.getT s = s.abs.heap.get? := funext (HandSHeadRun.getT_eq s)
  show obsMG 5 fn ex (HandSHeadRun.getT s) = obsMG 5 fn ex s.abs.heap.get?
  rw [e]
theorem run (w : World) : HandSHeadRun.RunEq RR (PySem.W.view RR.prog [84]) hk ob 6000 loose w := by
  intro os
  kernel_rfl
end K6
open PySem PySem.W PySem.Calls PyProof.Rows
theorem PySem.Challenge.cw_layermap_k06_known_holds : PySem.Challenge.rw_layermap_k06_known.Holds := by
  w_on; o_law
  refine HandSHeadRun.head_any (r := OpenLaw.row PySem.Challenge.rw_layermap_k06_known) (q := view (OpenLaw.row PySem.Challenge.rw_layermap_k06_known).prog [84]) (H := K6.hk) (ob := K6.ob) (M := 6000) (loose := K6.loose) (d := HandSHeadRun.topDef (OpenLaw.row PySem.Challenge.rw_layermap_k06_known).prog 84) (kwd := []) K6.ob_eq
    (by kernel_rfl) (fun s => by kernel_rfl) K6.run (by kernel_rfl) (by kernel_rfl) (by kernel_rfl) (by rfl) (by first | assumption | decide +kernel) (by decide +kernel) ⟨rfl, rfl, rfl, rfl, rfl, by decide +kernel⟩ ?hw ?hc
  case hw => w_witness2
  case hc =>
    refine Mi.walkM (l := PySem.Challenge.rw_layermap_k06_known) (n := 63) (k := 19) (x := "script") rfl (by decide) (by kernel_rfl) ⟨rfl, by decide, by decide⟩ ?F
    intro w mg fa h Y G hmg0
    obtain ⟨K, KX, c⟩ := Y
    have hmg : mg ("law" : PySem.Str) = some (.ref fa) := by
      have e : (HandSHeadRun.topDef (OpenLaw.row PySem.Challenge.rw_layermap_k06_known).prog 84).name = ("law" : PySem.Str) := by kernel_rfl
      rw [← e]
      exact hmg0
    have T := K6.tx (P := (PySem.Challenge.rw_layermap_k06_known).prog) (w := w) KX G c
    obtain ⟨fd, F⟩ := c.fn_ 76
    have e := hmg.symm.trans T.d_law.mg
    cases e
    have b := L2.FunD.bindsA (ps := ["script"]) F fun _ _ _ _ _ _ us hl => match us, hl with | [_], _ => rfl
    exact ⟨K, fd, (K6.ad _ w K).cl, K6.m_law, KX, fun s v => b s [v] rfl, K6.law_true, fun base _ _ => K6.ok_law T (He5.fun_of F)⟩
