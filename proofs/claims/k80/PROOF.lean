import PyProof.Rows.All
import Wide.All
import OpenK.AllK
import Wide.FinOn
import KE.KExcIs
import KE.KDictKeyed
import KE.KeyNested
import HandS.ForMost
import HandS.Codes
import HandS.IsInst
import HandS.TupAny
import HandS.Flow
import HandS.Exc
import HandS.Lambda
import HandS.ForExc
import HandS.Deep
import HandS.TupLe
import PyProof.AutoSeq1
import KE.KDictDisplayH
import HandS.Zip
import HandS.ExcInit
import HandS.ExcIs
import KE.KTypeName
import HandS.Defaults
import PyProof.ReprRoads
import PyProof.FString2
import HandS.Style
import HandS.More
import HandS.Head0
import HandS.Head1
import HandS.Head2
import HandS.HeadEnd
import HandS.HeadHook4
import HandS.HeadNt
import HandS.HeadWalk
import HandS.NestedK
import PyProof.StrLawsIn
import PySem.Challenge.RW_formrules_k80_cuts_of_trees
set_option Elab.async false
set_option linter.all false
set_option maxRecDepth 100000
set_option maxHeartbeats 4000000
namespace FL
open PySem PySem.Spec PyProof.Rows L2
/-! ### what values and objects are -/
structure Ex where
  c : Str
  fs : List (Str × PyData)
inductive W where
  | d (x : PyData)
  | obj (n : Nat)
  | exc (e : Ex)
inductive Ob where
  | dead
  | lst (ws : List W)
  | dct (kvs : List (PyData × W))
  | dcn (kvs : List (PyData × W))
  | ins (c : Str) (fs : List (Str × W))
  | tab (q : Str)
def W.ref (p : Nat → Prop) : W → Prop
  | .obj n => p n
  | _ => True
def Ob.refs (p : Nat → Prop) : Ob → Prop
  | .dead => True
  | .lst ws => ∀ w ∈ ws, w.ref p
  | .dct kvs => ∀ q ∈ kvs, q.2.ref p
  | .dcn kvs => ∀ q ∈ kvs, q.2.ref p
  | .ins _ fs => ∀ q ∈ fs, q.2.ref p
  | .tab _ => True
theorem W.ref.mono {p q : Nat → Prop} (h : ∀ n, p n → q n) : ∀ {w : W}, w.ref p → w.ref q
  | .obj n, r => h n r
  | .d _, _ => trivial
  | .exc _, _ => trivial
theorem Ob.refs.mono {p q : Nat → Prop} (h : ∀ n, p n → q n) : ∀ {o : Ob}, o.refs p → o.refs q
  | .dead, _ => trivial
  | .lst _, r => fun w m => (r w m).mono h
  | .dct _, r => fun w m => (r w m).mono h
  | .dcn _, r => fun w m => (r w m).mono h
  | .ins _ _, r => fun w m => (r w m).mono h
  | .tab _, _ => trivial
/-- a state: slots, objects; into which objects a reference was stored -/
structure AS where
  sl : List (Option W)
  os : List Ob
  es : List Nat
inductive Oc (α : Type) where
  | ok (a : α) (s : AS)
  | ex (e : Ex) (s : AS)
def FM (α : Type) : Type := AS → Option (Oc α)
def FM.pure {α : Type} (a : α) : FM α := fun s => some (.ok a s)
def FM.bind {α β : Type} (m : FM α) (f : α → FM β) : FM β := fun s => match m s with
  | some (.ok a s1) => f a s1
  | some (.ex e s1) => some (.ex e s1)
  | none => none
/-- what a call comes to -/
inductive Rs where
  | ok (w : W) (os : List Ob) (es : List Nat)
  | ex (e : Ex) (os : List Ob) (es : List Nat)
abbrev Fn : Type := List W → List Ob → Option Rs
/-! ### how they stand in the heap -/
structure Tb where
  cls : Str → Option Addr
  /-- where the law's own lambdas are kept -/
  tab : Addr
def live (L : List Addr) (os : List Ob) (a : Addr) : Prop := ∃ (n : Nat) (o : Ob), L[n]? = some a ∧ os[n]? = some o ∧ o ≠ Ob.dead
/-! what a datum is as a key -/
mutual
def nkey : PyData → Option NestedKey
  | .none => some .none
  | .bool b => some (.num (if b = true then 1 else 0))
  | .int i => some (.num i)
  | .str x => some (.text x)
  | .tuple xs => (nkeys xs).map .tup
  | _ => none
def nkeys : List PyData → Option (List NestedKey)
  | [] => some []
  | x :: xs => match nkey x, nkeys xs with
    | some k, some ks => some (k :: ks)
    | _, _ => none
end
/-- a tuple that may be a key -/
def keyN : PyData → Option NestedKey
  | .tuple xs => (nkeys xs).bind fun ks => if (NestedKey.tup ks).depth ≤ 8 then some (.tup ks) else none
  | _ => none
/-- an int or a text -/
def keyK : PyData → Option Key
  | .int i => some (.inl i)
  | .str x => some (.inr x)
  | _ => none
/-- a dict whose keys are tuples: the keys, where they stand, the values -/
def dN (P : Program) (w : World) (a : Addr) (ks : List (NestedKey × Addr × V)) : HO := .ext fun h => ks.length ≤ sizeLine ∧ (a == sysModules) = false ∧ ∃ xs : List (NestedKey × Addr × Value), Paired (fun p q => p.1 = q.1 ∧ p.2.1 = q.2.1 ∧ RelV p.2.2 q.2.2) ks xs ∧
  ∃ o es ep, h.get? a = some o ∧ o.ExactDict ∧ o.data = .dict es ep ∧ es.toList = xs.map (entryOfKey (nestedKind P w)) ∧ (xs.map (·.1)).Nodup
/-- a dict stands there: its keys, its values -/
inductive DAt (P : Program) (w : World) (H : Hp) (a : Addr) : List V → List V → Prop
  | dK {ks : List (Key × V)} (h : Rd H a (.dK ks)) : DAt P w H a (ks.map fun q => kV q.1) (ks.map (·.2))
section
variable (P : Program) (w : World) (K : PySem.W.Frag) (H : Hp) (Lv : Addr → Prop)
mutual
inductive Rp : V → PyData → Prop
  | non : Rp .non .none
  | bl (b : Bool) : Rp (.bl b) (.bool b)
  | int (i : Int) : Rp (.int i) (.int i)
  | str (s : Str) : Rp (.str s) (.str s)
  | tup {a : Addr} {vs : List V} {xs : List PyData} (h : SqT K H a vs) (r : RpAll vs xs) : Rp (.ref a) (.tuple xs)
  | lst {a : Addr} {vs : List V} {xs : List PyData} (h : Rd H a (.lst vs)) (n : ¬ Lv a) (r : RpAll vs xs) : Rp (.ref a) (.list xs)
  | dct {a : Addr} {kv vv : List V} {ks vs : List PyData} (h : DAt P w H a kv vv) (n : ¬ Lv a) (r : RpAll kv ks) (q : RpAll vv vs) (hl : ks.length = vs.length) : Rp (.ref a) (.dict (ks.zip vs))
inductive RpAll : List V → List PyData → Prop
  | nil : RpAll [] []
  | cons {v : V} {vs : List V} {x : PyData} {xs : List PyData} (h : Rp v x) (t : RpAll vs xs) : RpAll (v :: vs) (x :: xs)
end
end
/-- an exception's object that is kept -/
def ExR (cls : Value) (d : Option Addr) (a : Addr) : HO := .ext fun h => ∃ (oe : Obj) (vs : Array Value), h.get? a = some oe ∧ Zc cls d oe ∧ oe.data = .fields vs
structure G where
  P : Program
  w : World
  K : PySem.W.Frag
  T : Tb
/-- the parts of an exception beside its object -/
def ExP (g : G) (A : Addr → Prop) (e : Ex) (cls : Value) (d : Option Addr) (H : Hp) : Prop := ∃ C dx fs, g.T.cls e.c = some C ∧ cls = .ref C ∧ d = some dx ∧ H dx = some (.xd fs) ∧ (∀ f v, e.fs.lookup f = some v → ∃ u, fs.lookup f = some u ∧ Rp g.P g.w g.K H A u v)
/-- the value v is w; Pv: what else is set apart -/
def RpW (g : G) (Pv : Addr → Prop) (L : List Addr) (os : List Ob) (H : Hp) (v : V) : W → Prop
  | .d x => Rp g.P g.w g.K H (fun a => live L os a ∨ Pv a) v x
  | .obj n => ∃ a, L[n]? = some a ∧ v = .ref a
  | .exc e => ∃ a cls d, v = .ref a ∧ ¬ (live L os a ∨ Pv a) ∧ H a = some (ExR cls d a) ∧ ExP g (fun a => live L os a ∨ Pv a) e cls d H
abbrev RpWs (g : G) (Pv : Addr → Prop) (L : List Addr) (os : List Ob) (H : Hp) : List V → List W → Prop := Paired (RpW g Pv L os H)
inductive ObR (g : G) (Pv : Addr → Prop) (L : List Addr) (os : List Ob) (H : Hp) (a : Addr) : Ob → Prop
  | dead : ObR g Pv L os H a .dead
  | lst {vs : List V} {ws : List W} (h : H a = some (.lst vs)) (r : RpWs g Pv L os H vs ws) : ObR g Pv L os H a (.lst ws)
  | dK {ks : List (Key × V)} {kvs : List (PyData × W)} (h : H a = some (.dK ks)) (r : RpAll g.P g.w g.K H (fun a => live L os a ∨ Pv a) (ks.map fun q => kV q.1) (kvs.map (·.1))) (q : RpWs g Pv L os H (ks.map (·.2)) (kvs.map (·.2))) : ObR g Pv L os H a (.dct kvs)
  | dN {ks : List (NestedKey × Addr × V)} {kvs : List (PyData × W)} (h : H a = some (dN g.P g.w a ks)) (r : RpAll g.P g.w g.K H (fun a => live L os a ∨ Pv a) (ks.map fun q => V.ref q.2.1) (kvs.map (·.1))) (n : kvs.map (fun q => keyN q.1) = ks.map fun q => some q.1) (q : RpWs g Pv L os H (ks.map (·.2.2)) (kvs.map (·.2))) : ObR g Pv L os H a (.dcn kvs)
  | ins {C dx : Addr} {c : Str} {vs : List (Str × V)} {fs : List (Str × W)} (hc : g.T.cls c = some C) (h : H a = some (.ins C dx vs)) (n : vs.map (·.1) = fs.map (·.1)) (r : RpWs g Pv L os H (vs.map (·.2)) (fs.map (·.2))) : ObR g Pv L os H a (.ins c fs)
  | tab {q : Str} {ps : Array Value} (e : a = g.T.tab) (h : H a = some (.tbl ps)) (t : TriplesOk ps.toList) (k : ∀ (p : Pos) (cv : Value), codeAmong p ps.toList = some cv → ∃ c, cv = .ref c ∧ H c = some (LamX.CodeO c q) ∧ ¬ Pv c) : ObR g Pv L os H a (.tab q)
/-- no code object's table -/
def NT (o : HO) : Prop := ∀ ps, o ≠ .tbl ps
theorem nt_lst {xs : List V} : NT (.lst xs) := fun _ z => nomatch z
theorem nt_tup {xs : List V} : NT (.tup xs) := fun _ z => nomatch z
theorem nt_dK {xs : List (Key × V)} : NT (.dK xs) := fun _ z => nomatch z
theorem nt_frz {o : Obj} {u : HO} : NT (.frz o u) := fun _ z => nomatch z
theorem nt_xd {u : List (Str × V)} : NT (.xd u) := fun _ z => nomatch z
theorem nt_ext {φ : Heap → Prop} : NT (.ext φ) := fun _ z => nomatch z
theorem ne_some {H : Hp} {a : Addr} {o : HO} (e : H a = some o) : H a ≠ none := by rw [e]; exact fun z => nomatch z
def Df (H : Hp) (a : Addr) : Prop := ∃ o, H a = some o ∧ NT o
theorem Df.ne {H : Hp} {a : Addr} (h : Df H a) : H a ≠ none := let ⟨_, e, _⟩ := h; ne_some e
theorem Df.same {H H' : Hp} {a : Addr} (h : Df H a) (s : ∀ o, H a = some o → H' a = some o) : Df H' a := let ⟨o, e, t⟩ := h; ⟨o, s o e, t⟩
/-- where an object is a code object's table, it is the first one -/
structure HR (g : G) (Pv : Addr → Prop) (L : List Addr) (os : List Ob) (H : Hp) : Prop where
  len : L.length = os.length
  inj : ∀ (i j : Nat) (a : Addr), L[i]? = some a → L[j]? = some a → i = j
  dfd : ∀ (n : Nat) (a : Addr), L[n]? = some a → ∃ o, H a = some o ∧ (NT o ∨ a = g.T.tab)
  ob : ∀ (n : Nat) (a : Addr) (o : Ob), L[n]? = some a → os[n]? = some o → ObR g Pv L os H a o
  wf : ∀ (n : Nat) (o : Ob), os[n]? = some o → o.refs (· < os.length)
  pv : ∀ a, Pv a → Df H a ∧ a ∉ L
  tb : ∀ (n : Nat) (q : Str), os[n]? = some (.tab q) → n = 0
/-- from one state to a later one -/
structure Gr (L : List Addr) (os : List Ob) (H : Hp) (L' : List Addr) (os' : List Ob) (H' : Hp) : Prop where
  pre : ∀ (n : Nat) (a : Addr), L[n]? = some a → L'[n]? = some a
  len : os.length ≤ os'.length
  keep : ∀ a o, NT o → H a = some o → ¬ live L os a → H' a = some o ∧ ¬ live L' os' a
/-- no object below m has a reference from m on -/
def ConfN (m : Nat) (os : List Ob) : Prop := ∀ (n : Nat) (o : Ob), n < m → os[n]? = some o → o.refs (· < m)
def Cf (os os' : List Ob) (es : List Nat) : Prop := ∀ m, m ≤ os.length → ConfN m os → (∀ i ∈ es, m ≤ i) → ConfN m os'
theorem Cf.refl {os : List Ob} : Cf os os [] := fun _ _ h _ => h
theorem Cf.trans {os o1 o2 : List Ob} {e f : List Nat} (a : Cf os o1 e) (l : os.length ≤ o1.length) (b : Cf o1 o2 f) : Cf os o2 (e ++ f) := fun m hm h hi =>
  b m (Nat.le_trans hm l) (a m hm h fun i q => hi i (List.mem_append_left _ q)) fun i q => hi i (List.mem_append_right _ q)
theorem Gr.refl {L : List Addr} {os : List Ob} {H : Hp} : Gr L os H L os H := ⟨fun _ _ h => h, Nat.le_refl _, fun _ _ _ h n => ⟨h, n⟩⟩
theorem Gr.trans {L L1 L2 : List Addr} {os o1 o2 : List Ob} {H H1 H2 : Hp} (a : Gr L os H L1 o1 H1) (b : Gr L1 o1 H1 L2 o2 H2) : Gr L os H L2 o2 H2 :=
  ⟨fun n x h => b.pre n x (a.pre n x h), Nat.le_trans a.len b.len, fun x o t h n => let ⟨h1, n1⟩ := a.keep x o t h n; b.keep x o t h1 n1⟩
/-- new things stand in the heap, unseen -/
theorem Gr.same {L : List Addr} {os : List Ob} {H H' : Hp} (s : Same H H') : Gr L os H L os H' := ⟨fun _ _ h => h, Nat.le_refl _, fun _ _ _ h n => ⟨s _ _ h, n⟩⟩
theorem Gr.kn {L : List Addr} {os : List Ob} {H : Hp} {L' : List Addr} {os' : List Ob} {H' : Hp} (r : Gr L os H L' os' H') : ∀ a o, NT o → H a = some o → ¬ live L os a → H' a = some o := fun a o t e n => (r.keep a o t e n).1
section
variable {g : G} {Pv : Addr → Prop} {L L' : List Addr} {os os' : List Ob} {H H' : Hp}
theorem HR.nlive (R : HR g Pv L os H) {a : Addr} (h : live L os a) : (∃ xs, H a = some (.lst xs)) ∨ (∃ ks, H a = some (.dK ks)) ∨ (∃ φ, H a = some (.ext φ)) ∨ (∃ C dx fs, H a = some (.ins C dx fs)) ∨ ∃ ps, H a = some (.tbl ps) := by
  obtain ⟨n, o, h1, h2, h3⟩ := h
  cases R.ob n a o h1 h2 with
  | dead => exact absurd rfl h3
  | lst h _ => exact .inl ⟨_, h⟩
  | dK h _ _ => exact .inr (.inl ⟨_, h⟩)
  | dN h _ _ _ => exact .inr (.inr (.inl ⟨_, h⟩))
  | ins _ h _ _ => exact .inr (.inr (.inr (.inl ⟨_, _, _, h⟩)))
  | tab _ h _ _ => exact .inr (.inr (.inr (.inr ⟨_, h⟩)))
theorem HR.tup (R : HR g Pv L os H) {a : Addr} {vs : List V} (h : H a = some (.tup vs)) : ¬ live L os a := fun l => by
  rcases R.nlive l with ⟨_, e⟩ | ⟨_, e⟩ | ⟨_, e⟩ | ⟨_, _, _, e⟩ | ⟨_, e⟩ <;> (rw [h] at e; cases e)
theorem HR.frz (R : HR g Pv L os H) {a : Addr} {o : Obj} {u : HO} (h : H a = some (.frz o u)) : ¬ live L os a := fun l => by
  rcases R.nlive l with ⟨_, e⟩ | ⟨_, e⟩ | ⟨_, e⟩ | ⟨_, _, _, e⟩ | ⟨_, e⟩ <;> (rw [h] at e; cases e)
theorem HR.xd (R : HR g Pv L os H) {a : Addr} {u : List (Str × V)} (h : H a = some (.xd u)) : ¬ live L os a := fun l => by
  rcases R.nlive l with ⟨_, e⟩ | ⟨_, e⟩ | ⟨_, e⟩ | ⟨_, _, _, e⟩ | ⟨_, e⟩ <;> (rw [h] at e; cases e)
theorem HR.live_some (R : HR g Pv L os H) {a : Addr} (h : live L os a) : H a ≠ none := let ⟨n, _, h1, _⟩ := h; let ⟨_, e, _⟩ := R.dfd n a h1; ne_some e
theorem HR.dfn (R : HR g Pv L os H) (n : Nat) (a : Addr) (h : L[n]? = some a) : H a ≠ none := let ⟨_, e, _⟩ := R.dfd n a h; ne_some e
theorem HR.nolive (R : HR g Pv L os H) {a : Addr} (h : H a = none) : ¬ live L os a := fun l => R.live_some l h
theorem live_mem {a : Addr} (h : live L os a) : a ∈ L := let ⟨_, _, e, _⟩ := h; List.mem_of_getElem? e
theorem HR.nopv (R : HR g Pv L os H) {a : Addr} (h : H a = none) : ¬ Pv a := fun l => (R.pv a l).1.ne h
theorem SqT.keep (R : HR g Pv L os H) (k : ∀ a o, NT o → H a = some o → ¬ live L os a → H' a = some o) {K : PySem.W.Frag} {a : Addr} {vs : List V} (h : SqT K H a vs) : SqT K H' a vs := by
  rcases h with (h | ⟨o, h⟩) | h
  · exact .inl (.inl (k _ _ nt_tup h (R.tup h)))
  · exact .inl (.inr ⟨o, k _ _ nt_frz h (R.frz h)⟩)
  · exact .inr h
theorem Rd.keep (k : ∀ a o, NT o → H a = some o → ¬ live L os a → H' a = some o) {a : Addr} {u : HO} (t : NT u) (n : ¬ live L os a) (h : Rd H a u) : Rd H' a u := by
  rcases h with h | ⟨o, h⟩
  · exact .inl (k _ _ t h n)
  · exact .inr ⟨o, k _ _ nt_frz h n⟩
theorem Rd.ne {a : Addr} {u : HO} (h : Rd H a u) : H a ≠ none := by
  rcases h with h | ⟨o, h⟩ <;> (rw [h]; exact fun z => nomatch z)
theorem DAt.keep {P : Program} {w : World} (k : ∀ a o, NT o → H a = some o → ¬ live L os a → H' a = some o) {a : Addr} {kv vv : List V} (n : ¬ live L os a) (h : DAt P w H a kv vv) : DAt P w H' a kv vv := by
  cases h with
  | dK h => exact .dK (Rd.keep k nt_dK n h)
theorem Rd.some {a : Addr} {u : HO} (h : Rd H a u) (t : NT u) : ∃ o, H a = .some o ∧ NT o := by
  rcases h with h | ⟨o, h⟩
  · exact ⟨_, h, t⟩
  · exact ⟨_, h, nt_frz⟩
theorem DAt.some {P : Program} {w : World} {a : Addr} {kv vv : List V} (h : DAt P w H a kv vv) : ∃ o, H a = .some o ∧ NT o := by
  cases h with
  | dK h => exact Rd.some h nt_dK
/-- data stay what they are -/
structure Stay (g : G) (A A' : Addr → Prop) (H H' : Hp) : Prop where
  sq : ∀ a vs, SqT g.K H a vs → SqT g.K H' a vs
  rd : ∀ a u, NT u → Rd H a u → ¬ A a → Rd H' a u
  dn : ∀ a kv vv, DAt g.P g.w H a kv vv → ¬ A a → DAt g.P g.w H' a kv vv
  ok : ∀ a o, NT o → H a = .some o → ¬ A a → ¬ A' a
mutual
theorem Rp.stay {A A' : Addr → Prop} (s : Stay g A A' H H') : ∀ (x : PyData) (v : V), Rp g.P g.w g.K H A v x → Rp g.P g.w g.K H' A' v x
  | .none, _, h => by cases h; exact .non
  | .bool b, _, h => by cases h; exact .bl b
  | .int i, _, h => by cases h; exact .int i
  | .str i, _, h => by cases h; exact .str i
  | .tuple xs, _, h => by
    cases h with
    | tup h r => exact .tup (s.sq _ _ h) (RpAll.stay s xs _ r)
  | .list xs, _, h => by
    cases h with
    | lst h n r => exact .lst (s.rd _ _ nt_lst h n) (let ⟨o, e, t⟩ := Rd.some h nt_lst; s.ok _ o t e n) (RpAll.stay s xs _ r)
  | .dict kvs, _, h => by
    generalize e : PyData.dict kvs = d at h
    cases h with
    | @dct a kv vv ks vs h n r q hl =>
      injection e with e
      have e1 : ks = kvs.map (·.1) := by rw [e, List.map_fst_zip (by omega)]
      have e2 : vs = kvs.map (·.2) := by rw [e, List.map_snd_zip (by omega)]
      exact .dct (s.dn _ _ _ h n) (let ⟨o, e, t⟩ := DAt.some h; s.ok _ o t e n) (e1 ▸ RpAll.stayK s kvs _ (e1 ▸ r)) (e2 ▸ RpAll.stayV s kvs _ (e2 ▸ q)) hl
    | non => cases e
    | bl => cases e
    | int => cases e
    | str => cases e
    | tup => cases e
    | lst => cases e
theorem RpAll.stay {A A' : Addr → Prop} (s : Stay g A A' H H') : ∀ (xs : List PyData) (vs : List V), RpAll g.P g.w g.K H A vs xs → RpAll g.P g.w g.K H' A' vs xs
  | [], _, h => by cases h; exact .nil
  | x :: xs, _, h => by
    cases h with
    | cons h t => exact .cons (Rp.stay s x _ h) (RpAll.stay s xs _ t)
theorem RpAll.stayK {A A' : Addr → Prop} (s : Stay g A A' H H') : ∀ (xs : List (PyData × PyData)) (vs : List V), RpAll g.P g.w g.K H A vs (xs.map (·.1)) → RpAll g.P g.w g.K H' A' vs (xs.map (·.1))
  | [], _, h => by cases h; exact .nil
  | (x, y) :: xs, _, h => by
    cases h with
    | cons h t => exact .cons (Rp.stay s x _ h) (RpAll.stayK s xs _ t)
theorem RpAll.stayV {A A' : Addr → Prop} (s : Stay g A A' H H') : ∀ (xs : List (PyData × PyData)) (vs : List V), RpAll g.P g.w g.K H A vs (xs.map (·.2)) → RpAll g.P g.w g.K H' A' vs (xs.map (·.2))
  | [], _, h => by cases h; exact .nil
  | (x, y) :: xs, _, h => by
    cases h with
    | cons h t => exact .cons (Rp.stay s y _ h) (RpAll.stayV s xs _ t)
end
end
section
variable {g : G} {Pv : Addr → Prop} {L L' : List Addr} {os os' : List Ob} {H H' : Hp}
theorem Gr.stay (R : HR g Pv L os H) (r : Gr L os H L' os' H') : Stay g (fun a => live L os a ∨ Pv a) (fun a => live L' os' a ∨ Pv a) H H' :=
  ⟨fun _ _ h => SqT.keep R r.kn h, fun _ _ t h n => Rd.keep r.kn t (fun z => n (.inl z)) h,
    fun _ _ _ h n => DAt.keep r.kn (fun z => n (.inl z)) h, fun a o t e n z => z.elim (r.keep a o t e fun q => n (.inl q)).2 fun q => n (.inr q)⟩
theorem ExP.keep (R : HR g Pv L os H) (r : Gr L os H L' os' H') {e : Ex} {cls : Value} {d : Option Addr} (h : ExP g (fun a => live L os a ∨ Pv a) e cls d H) : ExP g (fun a => live L' os' a ∨ Pv a) e cls d H' := by
  obtain ⟨C, dx, fs, h1, h2, h3, h4, h5⟩ := h
  exact ⟨C, dx, fs, h1, h2, h3, r.kn _ _ nt_xd h4 (R.xd h4), fun f v q => let ⟨u, q1, q2⟩ := h5 f v q; ⟨u, q1, Rp.stay (r.stay R) _ _ q2⟩⟩
theorem RpW.mono (R : HR g Pv L os H) (r : Gr L os H L' os' H') {v : V} : ∀ {w : W}, RpW g Pv L os H v w → RpW g Pv L' os' H' v w
  | .d _, h => Rp.stay (r.stay R) _ _ h
  | .obj _, ⟨a, h, e⟩ => ⟨a, r.pre _ _ h, e⟩
  | .exc _, ⟨a, cls, d, e, n, h, p⟩ => ⟨a, cls, d, e, (fun z => z.elim (r.keep _ _ nt_ext h fun q => n (.inl q)).2 fun q => n (.inr q)), r.kn _ _ nt_ext h (fun q => n (.inl q)), p.keep R r⟩
theorem RpWs.mono (R : HR g Pv L os H) (r : Gr L os H L' os' H') {vs : List V} {ws : List W} (h : RpWs g Pv L os H vs ws) : RpWs g Pv L' os' H' vs ws := Paired.mapP h fun _ _ q => RpW.mono R r q
theorem RpAll.mono (R : HR g Pv L os H) (r : Gr L os H L' os' H') {vs : List V} {xs : List PyData} (h : RpAll g.P g.w g.K H (fun a => live L os a ∨ Pv a) vs xs) : RpAll g.P g.w g.K H' (fun a => live L' os' a ∨ Pv a) vs xs := RpAll.stay (r.stay R) _ _ h
/-- a code object is no dict -/
theorem code_dN {P : Program} {w : World} {a c : Addr} {q : Str} {ks : List (NestedKey × Addr × V)} : LamX.CodeO c q ≠ dN P w a ks := fun z => by
  unfold LamX.CodeO dN at z
  injection z with z
  have f := congrFun z ⟨Array.replicate (a + c + 1) { cls := .none, data := .fields #[.none, .str q 0] }, {}⟩
  have hg : ∀ b, b < a + c + 1 → (⟨Array.replicate (a + c + 1) { cls := .none, data := .fields #[.none, .str q 0] }, {}⟩ : Heap).get? b = some { cls := .none, data := .fields #[.none, .str q 0] } := fun b hb => by
    unfold Heap.get?
    simp [Array.getElem?_replicate, hb]
  obtain ⟨_, _, xs, _, o, es, ep, h1, _, h3, _⟩ := f.mp ⟨_, _, 0, hg c (Nat.lt_succ_of_le (Nat.le_add_left c a)), rfl, rfl⟩
  rw [hg a (Nat.lt_succ_of_le (Nat.le_add_right a c))] at h1
  cases h1
  cases h3
theorem HR.code (R : HR g Pv L os H) {c : Addr} {q : Str} (h : H c = some (LamX.CodeO c q)) : ¬ live L os c := fun ⟨n, o, h1, h2, h3⟩ => by
  have e : H c = some (.ext _) := h
  cases R.ob n c o h1 h2 with
  | dead => exact h3 rfl
  | lst y _ => rw [y] at e; cases e
  | dK y _ _ => rw [y] at e; cases e
  | dN y _ _ _ => rw [h] at y; exact code_dN (Option.some.inj y)
  | ins _ y _ _ => rw [y] at e; cases e
  | tab _ y _ _ => rw [y] at e; cases e
theorem ObR.mono (R : HR g Pv L os H) (r : Gr L os H L' os' H') {a : Addr} {o : Ob} (e : ∀ ho, H a = some ho → H' a = some ho) (h : ObR g Pv L os H a o) : ObR g Pv L' os' H' a o := by
  cases h with
  | dead => exact .dead
  | lst h q => exact .lst (e _ h) (q.mono R r)
  | dK h k q => exact .dK (e _ h) (k.mono R r) (q.mono R r)
  | dN h k n q => exact .dN (e _ h) (k.mono R r) n (q.mono R r)
  | ins c h n q => exact .ins c (e _ h) n (q.mono R r)
  | tab ea h t q => exact .tab ea (e _ h) t fun p cv z => let ⟨c, z1, z2, z3⟩ := q p cv z; ⟨c, z1, r.kn _ _ nt_ext z2 (R.code z2), z3⟩
theorem live_set {n : Nat} {o old : Ob} (h1 : os[n]? = some old) (hd : old ≠ .dead) (hn : o ≠ .dead) {b : Addr} : live L (os.set n o) b ↔ live L os b := by
  have hlt : n < os.length := (List.getElem?_eq_some_iff.mp h1).1
  constructor
  · rintro ⟨m, u, e1, e2, e3⟩
    by_cases h : m = n
    · subst h
      exact ⟨m, old, e1, h1, hd⟩
    · rw [List.getElem?_set_ne (Ne.symm h)] at e2
      exact ⟨m, u, e1, e2, e3⟩
  · rintro ⟨m, u, e1, e2, e3⟩
    by_cases h : m = n
    · subst h
      exact ⟨m, o, e1, List.getElem?_set_self hlt, hn⟩
    · exact ⟨m, u, e1, by rw [List.getElem?_set_ne (Ne.symm h)]; exact e2, e3⟩
/-- an object is changed in its place -/
theorem Gr.set {n : Nat} {a : Addr} {o old : Ob} {ho : HO} (hL : L[n]? = some a) (h1 : os[n]? = some old) (hd : old ≠ .dead) (hn : o ≠ .dead) : Gr L os H L (os.set n o) (upd H a ho) :=
  ⟨fun _ _ h => h, by rw [List.length_set]; exact Nat.le_refl _, fun b u _ h nl => ⟨by rw [upd_ne (fun z => nl ⟨n, old, by rw [z]; exact hL, h1, hd⟩)]; exact h, fun z => nl ((live_set h1 hd hn).mp z)⟩⟩
theorem HR.set {n : Nat} {a : Addr} {o old : Ob} {ho : HO} (R : HR g Pv L os H) (hL : L[n]? = some a) (h1 : os[n]? = some old) (hd : old ≠ .dead) (hn : o ≠ .dead) (hw : o.refs (· < os.length)) (hob : ObR g Pv L (os.set n o) (upd H a ho) a o) (nt : ∀ q, o ≠ .tab q) (tn : NT ho) : HR g Pv L (os.set n o) (upd H a ho) := by
  have gr := Gr.set (H := H) (ho := ho) hL h1 hd hn
  have hlt : n < os.length := (List.getElem?_eq_some_iff.mp h1).1
  refine ⟨by rw [List.length_set]; exact R.len, R.inj, fun m b e => ?_, fun m b u e1 e2 => ?_, fun m u e => ?_, fun b p => ?_, fun m q e => ?_⟩
  · by_cases h : b = a
    · subst h; exact ⟨ho, upd_same, .inl tn⟩
    · rw [upd_ne h]; exact R.dfd m b e
  · by_cases h : m = n
    · subst h
      rw [hL] at e1
      cases e1
      rw [List.getElem?_set_self hlt] at e2
      cases e2
      exact hob
    · rw [List.getElem?_set_ne (Ne.symm h)] at e2
      have hb : b ≠ a := fun z => h (R.inj m n a (z ▸ e1) hL)
      exact (R.ob m b u e1 e2).mono R gr fun ho' q => by rw [upd_ne hb]; exact q
  · rw [List.length_set]
    by_cases h : m = n
    · subst h
      rw [List.getElem?_set_self hlt] at e
      cases e
      exact hw
    · rw [List.getElem?_set_ne (Ne.symm h)] at e
      exact R.wf m u e
  · obtain ⟨p1, p2⟩ := R.pv b p
    have hb : b ≠ a := fun z => p2 (by rw [z]; exact List.mem_of_getElem? hL)
    exact ⟨p1.same fun o e => by rw [upd_ne hb]; exact e, p2⟩
  · by_cases h : m = n
    · subst h
      rw [List.getElem?_set_self hlt] at e
      cases e
      exact absurd rfl (nt q)
    · rw [List.getElem?_set_ne (Ne.symm h)] at e
      exact R.tb m q e
theorem Cf.set {n : Nat} {o old : Ob} (h1 : os[n]? = some old) (h : ∀ m, old.refs (· < m) → o.refs (· < m)) : Cf os (os.set n o) [] := fun m hm hc _ k u hk e => by
  have hlt : n < os.length := (List.getElem?_eq_some_iff.mp h1).1
  by_cases q : k = n
  · subst q
    rw [List.getElem?_set_self hlt] at e
    cases e
    exact h m (hc k old hk h1)
  · rw [List.getElem?_set_ne (Ne.symm q)] at e
    exact hc k u hk e
theorem Same.ne (s : Same H H') {a : Addr} (h : H a ≠ none) : H' a ≠ none := by
  cases q : H a with
  | none => exact absurd q h
  | some o => rw [s _ _ q]; exact fun z => nomatch z
theorem HR.same (R : HR g Pv L os H) (s : Same H H') : HR g Pv L os H' :=
  ⟨R.len, R.inj, fun n a e => let ⟨o, q, t⟩ := R.dfd n a e; ⟨o, s _ _ q, t⟩, fun n a o e1 e2 => (R.ob n a o e1 e2).mono R (.same s) fun ho q => s _ _ q, R.wf, fun a p => ⟨(R.pv a p).1.same (s a), (R.pv a p).2⟩, R.tb⟩
theorem get_push {α : Type} {l : List α} {x y : α} {n : Nat} : (l ++ [x])[n]? = some y ↔ l[n]? = some y ∨ (n = l.length ∧ x = y) := by
  rw [List.getElem?_append]
  by_cases h : n < l.length
  · rw [if_pos h]
    exact ⟨.inl, fun q => q.elim id fun z => absurd z.1 (by omega)⟩
  · rw [if_neg h]
    by_cases e : n = l.length
    · subst e
      rw [Nat.sub_self]
      simp
    · have : ([x] : List α)[n - l.length]? = none := List.getElem?_eq_none_iff.mpr (by simp; omega)
      rw [this]
      have h2 : l[n]? = none := List.getElem?_eq_none_iff.mpr (by omega)
      rw [h2]
      simp [e]
theorem live_push {p b : Addr} {o : Ob} (hl : L.length = os.length) (z : live (L ++ [p]) (os ++ [o]) b) : live L os b ∨ b = p := by
  obtain ⟨m, u, e1, e2, e3⟩ := z
  rcases get_push.mp e1 with e1 | ⟨e1, rfl⟩
  · rcases get_push.mp e2 with e2 | ⟨e2, rfl⟩
    · exact .inl ⟨m, u, e1, e2, e3⟩
    · exact absurd (List.getElem?_eq_some_iff.mp e1).1 (by omega)
  · exact .inr rfl
/-- a new object -/
theorem Gr.push {p : Addr} {o : Ob} (R : HR g Pv L os H) (hp : H p = none) (s : Same H H') : Gr L os H (L ++ [p]) (os ++ [o]) H' :=
  ⟨fun n a h => get_push.mpr (.inl h), by rw [List.length_append]; omega, fun b u _ h nl => ⟨s _ _ h, fun z => (live_push R.len z).elim nl fun q => ne_some h (by rw [q]; exact hp)⟩⟩
theorem HR.push {p : Addr} {o : Ob} (R : HR g Pv L os H) (hp : H p = none) (s : Same H H') (hw : o.refs (· < os.length + 1)) (hd : Df H' p) (hob : ObR g Pv (L ++ [p]) (os ++ [o]) H' p o) (nt : ∀ q, o ≠ .tab q) : HR g Pv (L ++ [p]) (os ++ [o]) H' := by
  have gr := Gr.push (o := o) R hp s
  have hne : ∀ (m : Nat), L[m]? = some p → False := fun m e => R.dfn m p e hp
  have hsome : ∀ a, H a ≠ none → H' a ≠ none := fun a h => by
    cases q : H a with
    | none => exact absurd q h
    | some o => rw [s _ _ q]; exact fun z => nomatch z
  refine ⟨by rw [List.length_append, List.length_append, R.len]; rfl, fun i j a e1 e2 => ?_, fun m b e => ?_, fun m b u e1 e2 => ?_, fun m u e => ?_, fun b q => ?_, fun m q e => ?_⟩
  · rcases get_push.mp e1 with e1 | ⟨e1, rfl⟩
    · rcases get_push.mp e2 with e2 | ⟨e2, rfl⟩
      · exact R.inj i j a e1 e2
      · exact (hne _ e1).elim
    · rcases get_push.mp e2 with e2 | ⟨e2, _⟩
      · exact (hne _ e2).elim
      · omega
  · rcases get_push.mp e with e | ⟨e, rfl⟩
    · obtain ⟨o, q, t⟩ := R.dfd m b e
      exact ⟨o, s _ _ q, t⟩
    · obtain ⟨o, q, t⟩ := hd
      exact ⟨o, q, .inl t⟩
  · rcases get_push.mp e1 with e1 | ⟨e1, rfl⟩
    · rcases get_push.mp e2 with e2 | ⟨e2, rfl⟩
      · exact (R.ob m b u e1 e2).mono R gr fun ho q => s _ _ q
      · exact absurd (List.getElem?_eq_some_iff.mp e1).1 (by have := R.len; omega)
    · rcases get_push.mp e2 with e2 | ⟨e2, rfl⟩
      · exact absurd (List.getElem?_eq_some_iff.mp e2).1 (by have := R.len; omega)
      · exact hob
  · rw [List.length_append]
    rcases get_push.mp e with e | ⟨e, rfl⟩
    · exact (R.wf m u e).mono fun n h => by show n < os.length + 1; omega
    · exact hw
  · obtain ⟨p1, p2⟩ := R.pv b q
    exact ⟨p1.same (s b), fun z => (List.mem_append.mp z).elim p2 fun e => p1.ne (by rw [List.mem_singleton.mp e]; exact hp)⟩
  · rcases get_push.mp e with e | ⟨_, e⟩
    · exact R.tb m q e
    · exact absurd e (nt q)
theorem Cf.push {o : Ob} : Cf os (os ++ [o]) [] := fun m hm hc _ k u hk e => by
  rcases get_push.mp e with e | ⟨e, _⟩
  · exact hc k u hk e
  · omega
theorem live_kill {n : Nat} {b : Addr} (z : live L (os.set n .dead) b) : live L os b := by
  obtain ⟨m, u, e1, e2, e3⟩ := z
  by_cases h : n = m
  · subst h
    rw [List.getElem?_set] at e2
    rw [if_pos rfl] at e2
    split at e2
    · exact absurd (Option.some.inj e2).symm e3
    · cases e2
  · rw [List.getElem?_set_ne h] at e2
    exact ⟨m, u, e1, e2, e3⟩
theorem Gr.kill {n : Nat} : Gr L os H L (os.set n .dead) H := ⟨fun _ _ h => h, by rw [List.length_set]; exact Nat.le_refl _, fun _ _ _ h nl => ⟨h, fun z => nl (live_kill z)⟩⟩
theorem HR.kill {n : Nat} (R : HR g Pv L os H) : HR g Pv L (os.set n .dead) H := by
  refine ⟨by rw [List.length_set]; exact R.len, R.inj, R.dfd, fun m b u e1 e2 => ?_, fun m u e => ?_, fun b p => R.pv b p, fun m q e => ?_⟩
  · by_cases h : n = m
    · subst h
      rw [List.getElem?_set, if_pos rfl] at e2
      split at e2
      · cases e2; exact .dead
      · cases e2
    · rw [List.getElem?_set_ne h] at e2
      exact (R.ob m b u e1 e2).mono R .kill fun _ q => q
  · rw [List.length_set]
    by_cases h : n = m
    · subst h
      rw [List.getElem?_set, if_pos rfl] at e
      split at e
      · cases e; trivial
      · cases e
    · rw [List.getElem?_set_ne h] at e
      exact R.wf m u e
  · by_cases h : n = m
    · subst h
      rw [List.getElem?_set, if_pos rfl] at e
      split at e <;> cases e
    · rw [List.getElem?_set_ne h] at e
      exact R.tb m q e
theorem Cf.kill {n : Nat} : Cf os (os.set n .dead) [] := fun m hm hc _ k u hk e => by
  by_cases h : n = k
  · subst h
    rw [List.getElem?_set, if_pos rfl] at e
    split at e
    · cases e; trivial
    · cases e
  · rw [List.getElem?_set_ne h] at e
    exact hc k u hk e
theorem live_take {m : Nat} {b : Addr} (z : live (L.take m) (os.take m) b) : live L os b := by
  obtain ⟨n, u, e1, e2, e3⟩ := z
  rw [List.getElem?_take] at e1 e2
  split at e1
  · rename_i h
    rw [if_pos h] at e2
    exact ⟨n, u, e1, e2, e3⟩
  · cases e1
theorem get_take {α : Type} {l : List α} {m n : Nat} {x : α} (h : (l.take m)[n]? = some x) : l[n]? = some x ∧ n < m := by
  rw [List.getElem?_take] at h
  split at h
  · rename_i q
    exact ⟨h, q⟩
  · cases h
/-- the objects from m on are forgotten -/
theorem HR.take {m : Nat} (R : HR g Pv L os H) (hm : m ≤ os.length) (c : ConfN m os) : HR g Pv (L.take m) (os.take m) H := by
  have hl : (os.take m).length = m := by rw [List.length_take]; omega
  have ref : ∀ {v : V} {w : W}, w.ref (· < m) → RpW g Pv L os H v w → RpW g Pv (L.take m) (os.take m) H v w := fun {v w} hr h => by
    cases w with
    | d x => exact Rp.stay ⟨fun _ _ q => q, fun _ _ _ q _ => q, fun _ _ _ q _ => q, fun a o _ e n z => n (z.imp_left live_take)⟩ _ _ h
    | obj n =>
      obtain ⟨a, e, r⟩ := h
      exact ⟨a, by rw [List.getElem?_take, if_pos (show n < m from hr)]; exact e, r⟩
    | exc e =>
      obtain ⟨a, cls, d, e1, n, q, p⟩ := h
      obtain ⟨C, dx, fs, h1, h2, h3, h4, h5⟩ := p
      exact ⟨a, cls, d, e1, fun z => n (z.imp_left live_take), q, C, dx, fs, h1, h2, h3, h4, fun f v q => let ⟨u, q1, q2⟩ := h5 f v q; ⟨u, q1, Rp.stay (g := g) ⟨fun _ _ q => q, fun _ _ _ q _ => q, fun _ _ _ q _ => q, fun a o _ e n z => n (z.imp_left live_take)⟩ _ _ q2⟩⟩
  have refs : ∀ {ws : List W} {vs : List V}, (∀ w ∈ ws, w.ref (· < m)) → RpWs g Pv L os H vs ws → RpWs g Pv (L.take m) (os.take m) H vs ws := by
    intro ws vs h1 h2
    induction h2 with
    | nil => exact .nil
    | cons h _ ih => exact .cons (ref (h1 _ List.mem_cons_self) h) (ih fun w q => h1 w (List.mem_cons_of_mem _ q))
  have all : ∀ {vs : List V} {xs : List PyData}, RpAll g.P g.w g.K H (fun a => live L os a ∨ Pv a) vs xs → RpAll g.P g.w g.K H (fun a => live (L.take m) (os.take m) a ∨ Pv a) vs xs := fun h =>
    RpAll.stay (g := g) ⟨fun _ _ q => q, fun _ _ _ q _ => q, fun _ _ _ q _ => q, fun a o _ e n z => n (z.imp_left live_take)⟩ _ _ h
  refine ⟨by rw [List.length_take, List.length_take, R.len], fun i j a e1 e2 => R.inj i j a (get_take e1).1 (get_take e2).1, fun n a e => R.dfd n a (get_take e).1, fun n a o e1 e2 => ?_, fun n o e => ?_, fun b p => ⟨(R.pv b p).1, fun z => (R.pv b p).2 (List.mem_of_mem_take z)⟩, fun n q e => R.tb n q (get_take e).1⟩
  · obtain ⟨e2, hn⟩ := get_take e2
    have hc := c n o hn e2
    cases R.ob n a o (get_take e1).1 e2 with
    | dead => exact .dead
    | lst h q => exact .lst h (refs hc q)
    | dK h k q => exact .dK h (all k) (refs (fun w z => let ⟨u, z1, z2⟩ := List.mem_map.mp z; z2 ▸ hc u z1) q)
    | dN h k n q => exact .dN h (all k) n (refs (fun w z => let ⟨u, z1, z2⟩ := List.mem_map.mp z; z2 ▸ hc u z1) q)
    | ins cc h nn q => exact .ins cc h nn (refs (fun w z => let ⟨u, z1, z2⟩ := List.mem_map.mp z; z2 ▸ hc u z1) q)
    | tab ea h t q => exact .tab ea h t fun p cv z => let ⟨c, z1, z2, z3⟩ := q p cv z; ⟨c, z1, z2, z3⟩
  · obtain ⟨e, hn⟩ := get_take e
    rw [hl]
    exact c n o hn e
theorem Gr.take {L0 : List Addr} {o0 : List Ob} {H0 : Hp} {m : Nat} (R0 : L0.length = o0.length) (r : Gr L0 o0 H0 L os H) (hm : m ≤ os.length) (h0 : o0.length ≤ m) : Gr L0 o0 H0 (L.take m) (os.take m) H :=
  ⟨fun n a e => by
      have : n < L0.length := (List.getElem?_eq_some_iff.mp e).1
      rw [List.getElem?_take, if_pos (by omega)]
      exact r.pre n a e,
    by rw [List.length_take]; omega, fun a o t e n => ⟨(r.keep a o t e n).1, fun z => (r.keep a o t e n).2 (live_take z)⟩⟩
end
end FL
namespace FL
open PySem PySem.Spec PyProof.Rows L2
/-! ### the judgements' readings -/
/-- what a body stands on: the state at its beginning, what is wanted of an exception -/
structure Bs where
  g : G
  Pv : Addr → Prop
  L : List Addr
  os : List Ob
  H : Hp
  E : XK
structure RS (B : Bs) (L : List Addr) (s : AS) (σ : L2.St) (H : Hp) : Prop where
  hr : HR B.g B.Pv L s.os H
  len : s.sl.length = σ.length
  sl : ∀ (i : Nat) (w : W), s.sl[i]? = some (some w) → ∃ v, σ[i]? = some (some v) ∧ RpW B.g B.Pv L s.os H v w
  gr : Gr B.L B.os B.H L s.os H
  cf : Cf B.os s.os s.es
def Xd (B : Bs) (e : Ex) (s : AS) : Prop := ∀ cls d H' L', HR B.g B.Pv L' s.os H' → Gr B.L B.os B.H L' s.os H' → Cf B.os s.os s.es → ExP B.g (fun a => live L' s.os a ∨ B.Pv a) e cls d H' → B.E cls d H'
def KE {α : Type} (B : Bs) (o : Oc α) (k : α → AS → Prop) : Prop := match o with
  | .ok a s => k a s
  | .ex e s => Xd B e s
def fE (B : Bs) (m : FM W) : TE := fun σ H Q => ∃ L s o, RS B L s σ H ∧ m s = some o ∧ KE B o fun w s1 => ∀ v H1 L1, RS B L1 s1 σ H1 → RpW B.g B.Pv L1 s1.os H1 v w → Gr L s.os H L1 s1.os H1 → Q v H1
def fA (B : Bs) (m : FM (List W)) : TA := fun σ H Q => ∃ L s o, RS B L s σ H ∧ m s = some o ∧ KE B o fun ws s1 => ∀ vs H1 L1, RS B L1 s1 σ H1 → RpWs B.g B.Pv L1 s1.os H1 vs ws → Gr L s.os H L1 s1.os H1 → Q vs H1
def fT (B : Bs) (m : FM Bool) : TT := fun σ H Q => ∃ L s o, RS B L s σ H ∧ m s = some o ∧ KE B o fun b s1 => ∀ H1 L1, RS B L1 s1 σ H1 → Gr L s.os H L1 s1.os H1 → Q b H1
inductive Fl where
  | nx | rt (w : W) | bk | ct
def fS (B : Bs) (m : FM Fl) : TS := fun D σ H => ∃ L s o, RS B L s σ H ∧ m s = some o ∧ KE B o fun f s1 => ∀ σ1 H1 L1, RS B L1 s1 σ1 H1 → Gr L s.os H L1 s1.os H1 → match f with
  | .nx => D.nx σ1 H1
  | .rt w => ∀ v, RpW B.g B.Pv L1 s1.os H1 v w → D.rt v H1
  | .bk => D.bk σ1 H1
  | .ct => D.ct σ1 H1
theorem PE.imp {X : Cx} {e : Expr} {t t' : TE} (h : PE X e t) (k : ∀ σ H Q, t' σ H Q → t σ H Q) : PE X e t' := ⟨fun pins s σ H Q I q => h.run pins s σ H Q I (k _ _ _ q)⟩
theorem PT.imp {X : Cx} {e : Expr} {t t' : TT} (h : PT X e t) (k : ∀ σ H Q, t' σ H Q → t σ H Q) : PT X e t' := ⟨fun pins s σ H Q I q => h.run pins s σ H Q I (k _ _ _ q)⟩
theorem PW.imp {X : Cx} {e : Expr} {t t' : TT} (h : PW X e t) (k : ∀ σ H Q, t' σ H Q → t σ H Q) : PW X e t' := ⟨fun whole pins s σ H Q I q => h.run whole pins s σ H Q I (k _ _ _ q)⟩
theorem PA.imp {X : Cx} {e : List Expr} {t t' : TA} (h : PA X e t) (k : ∀ σ H Q, t' σ H Q → t σ H Q) : PA X e t' := ⟨fun pos pins s σ H Q I q => h.run pos pins s σ H Q I (k _ _ _ q)⟩
theorem PS.imp {X : Cx} {e : Stmt} {t t' : TS} (h : PS X e t) (k : ∀ D σ H, t' D σ H → t D σ H) : PS X e t' := ⟨fun pins s σ H D I q => h.run pins s σ H D I (k _ _ _ q)⟩
theorem PSs.imp {X : Cx} {e : List Stmt} {t t' : TS} (h : PSs X e t) (k : ∀ D σ H, t' D σ H → t D σ H) : PSs X e t' := ⟨fun pins s σ H D I q => h.run pins s σ H D I (k _ _ _ q)⟩
theorem bind_some {α β : Type} {m : FM α} {f : α → FM β} {s : AS} {o : Oc β} (h : FM.bind m f s = some o) : (∃ a s1, m s = some (.ok a s1) ∧ f a s1 = some o) ∨ ∃ e s1, m s = some (.ex e s1) ∧ o = .ex e s1 := by
  unfold FM.bind at h
  split at h
  · exact .inl ⟨_, _, by assumption, h⟩
  · exact .inr ⟨_, _, by assumption, (Option.some.inj h).symm⟩
  · cases h
section
variable {B : Bs} {σ : L2.St} {H : Hp}
/-- one expression, then what is made of it -/
theorem fE.bind {β : Type} {m : FM W} {f : W → FM β} {L : List Addr} {s : AS} {o : Oc β} {Q : VK} (R : RS B L s σ H) (h : FM.bind m f s = some o) (hx : ∀ e s1, o = .ex e s1 → Xd B e s1)
    (k : ∀ w s1 v H1 L1, f w s1 = some o → RS B L1 s1 σ H1 → RpW B.g B.Pv L1 s1.os H1 v w → Gr L s.os H L1 s1.os H1 → Q v H1) : fE B m σ H Q := by
  rcases bind_some h with ⟨a, s1, h1, h2⟩ | ⟨e, s1, h1, h2⟩
  · exact ⟨L, s, _, R, h1, fun v H1 L1 R1 r gr => k a s1 v H1 L1 h2 R1 r gr⟩
  · exact ⟨L, s, _, R, h1, hx e s1 h2⟩
theorem fA.bind {β : Type} {m : FM (List W)} {f : List W → FM β} {L : List Addr} {s : AS} {o : Oc β} {Q : List V → Hp → Prop} (R : RS B L s σ H) (h : FM.bind m f s = some o) (hx : ∀ e s1, o = .ex e s1 → Xd B e s1)
    (k : ∀ w s1 v H1 L1, f w s1 = some o → RS B L1 s1 σ H1 → RpWs B.g B.Pv L1 s1.os H1 v w → Gr L s.os H L1 s1.os H1 → Q v H1) : fA B m σ H Q := by
  rcases bind_some h with ⟨a, s1, h1, h2⟩ | ⟨e, s1, h1, h2⟩
  · exact ⟨L, s, _, R, h1, fun v H1 L1 R1 r gr => k a s1 v H1 L1 h2 R1 r gr⟩
  · exact ⟨L, s, _, R, h1, hx e s1 h2⟩
theorem fT.bind {β : Type} {m : FM Bool} {f : Bool → FM β} {L : List Addr} {s : AS} {o : Oc β} {Q : Bool → Hp → Prop} (R : RS B L s σ H) (h : FM.bind m f s = some o) (hx : ∀ e s1, o = .ex e s1 → Xd B e s1)
    (k : ∀ w s1 H1 L1, f w s1 = some o → RS B L1 s1 σ H1 → Gr L s.os H L1 s1.os H1 → Q w H1) : fT B m σ H Q := by
  rcases bind_some h with ⟨a, s1, h1, h2⟩ | ⟨e, s1, h1, h2⟩
  · exact ⟨L, s, _, R, h1, fun H1 L1 R1 gr => k a s1 H1 L1 h2 R1 gr⟩
  · exact ⟨L, s, _, R, h1, hx e s1 h2⟩
theorem KE.ex {α : Type} {o : Oc α} {k : α → AS → Prop} (h : KE B o k) : ∀ e s1, o = .ex e s1 → Xd B e s1 := fun e s1 q => by subst q; exact h
/-- the heap has changed, the slots not -/
theorem RS.next {L L' : List Addr} {s : AS} {os' : List Ob} {H' : Hp} {es : List Nat} (R : RS B L s σ H) (h : HR B.g B.Pv L' os' H') (gr : Gr L s.os H L' os' H') (c : Cf s.os os' es) : RS B L' { s with os := os', es := s.es ++ es } σ H' :=
  ⟨h, R.len, fun i w e => let ⟨v, e1, r⟩ := R.sl i w e; ⟨v, e1, RpW.mono R.hr gr r⟩, R.gr.trans gr, R.cf.trans R.gr.len c⟩
theorem RS.same {L : List Addr} {s : AS} {H' : Hp} (R : RS B L s σ H) (h : Same H H') : RS B L s σ H' :=
  ⟨R.hr.same h, R.len, fun i w e => let ⟨v, e1, r⟩ := R.sl i w e; ⟨v, e1, RpW.mono R.hr (.same h) r⟩, R.gr.trans (.same h), R.cf⟩
theorem RS.set {L : List Addr} {s : AS} {i : Nat} {v : V} {w : W} (R : RS B L s σ H) (r : RpW B.g B.Pv L s.os H v w) : RS B L { s with sl := s.sl.set i (some w) } (σ.set i (some v)) H :=
  ⟨R.hr, by rw [List.length_set, List.length_set]; exact R.len, fun j u e => by
    by_cases h : j = i
    · subst h
      have hj : j < s.sl.length := by
        rcases Nat.lt_or_ge j s.sl.length with q | q
        · exact q
        · rw [List.getElem?_eq_none (by rw [List.length_set]; exact q)] at e; cases e
      rw [List.getElem?_set_self hj] at e
      cases e
      exact ⟨v, List.getElem?_set_self (R.len ▸ hj), r⟩
    · rw [List.getElem?_set_ne (Ne.symm h)] at e
      obtain ⟨v', e1, r1⟩ := R.sl j u e
      exact ⟨v', by rw [List.getElem?_set_ne (Ne.symm h)]; exact e1, r1⟩, R.gr, R.cf⟩
end
/-! ### names, constants -/
def mVar (i : Nat) : FM W := fun s => match s.sl[i]? with
  | some (some w) => some (.ok w s)
  | _ => none
def mC (x : PyData) : FM W := FM.pure (.d x)
section
variable {X : Cx} {B : Bs}
theorem f_var {i : Nat} {x : Str} {pos : Pos} (h : PE X (.Name x pos) (tVar i)) : PE X (.Name x pos) (fE B (mVar i)) := by
  refine PE.imp h fun σ H Q ⟨L, s, o, R, e, k⟩ => ?_
  unfold mVar at e
  split at e
  · rename_i w hw
    cases e
    obtain ⟨v, e1, r⟩ := R.sl i w hw
    exact ⟨v, e1, k v H L R r .refl⟩
  · cases e
theorem f_const {e : Expr} {v : V} {x : PyData} (h : PE X e (tC v)) (r : ∀ H A, Rp B.g.P B.g.w B.g.K H A v x) : PE X e (fE B (mC x)) := by
  refine PE.imp h fun σ H Q ⟨L, s, o, R, e, k⟩ => ?_
  cases e
  exact k v H L R (r _ _) .refl
theorem f_int {i : Int} {j pos} : PE X (.Constant (.int i) j pos) (fE B (mC (.int i))) := f_const pe_int fun _ _ => .int i
theorem f_bl {i : Bool} {j pos} : PE X (.Constant (.bool i) j pos) (fE B (mC (.bool i))) := f_const pe_bl fun _ _ => .bl i
theorem f_non {j pos} : PE X (.Constant .none j pos) (fE B (mC .none)) := f_const pe_non fun _ _ => .non
theorem f_str {i : Str} {j pos} : PE X (.Constant (.str i) j pos) (fE B (mC (.str i))) := f_const pe_str fun _ _ => .str i
/-! ### argument lists -/
def mNil : FM (List W) := FM.pure []
def mCons (m : FM W) (ms : FM (List W)) : FM (List W) := m.bind fun w => ms.bind fun ws => FM.pure (w :: ws)
theorem fa_nil : PA X [] (fA B mNil) := PA.imp pa_nil fun σ H Q ⟨L, s, o, R, e, k⟩ => by
  cases e
  exact k [] H L R .nil .refl
theorem fa_cons {e : Expr} {es : List Expr} {m : FM W} {ms : FM (List W)} (ha : PE X e (fE B m)) (hr : PA X es (fA B ms)) (hs : starEach (e :: es) X.env = (false, eval e X.env) :: starEach es X.env := by rfl) : PA X (e :: es) (fA B (mCons m ms)) := by
  refine PA.imp (pa_cons ha hr hs) fun σ H Q ⟨L, s, o, R, e, k⟩ => ?_
  refine fE.bind R e k.ex fun w s1 v H1 L1 e1 R1 r1 g1 => ?_
  refine fA.bind R1 e1 k.ex fun ws s2 vs H2 L2 e2 R2 r2 g2 => ?_
  cases e2
  exact k (v :: vs) H2 L2 R2 (.cons (RpW.mono R1.hr g2 r1) r2) (g1.trans g2)
/-! ### what is reckoned from values -/
/-- f: from the objects and a value to a value; new objects may come that nobody sees -/
def rF1 (B : Bs) (f : List Ob → W → Option W) (x : V) (H : Hp) (Q : VK) : Prop := ∃ L os w r, HR B.g B.Pv L os H ∧ RpW B.g B.Pv L os H x w ∧ f os w = some r ∧ ∀ v H', Same H H' → RpW B.g B.Pv L os H' v r → Q v H'
def rF2 (B : Bs) (f : List Ob → W → W → Option W) (x y : V) (H : Hp) (Q : VK) : Prop := ∃ L os w u r, HR B.g B.Pv L os H ∧ RpW B.g B.Pv L os H x w ∧ RpW B.g B.Pv L os H y u ∧ f os w u = some r ∧ ∀ v H', Same H H' → RpW B.g B.Pv L os H' v r → Q v H'
def rFn (B : Bs) (f : List Ob → List W → Option W) (xs : List V) (H : Hp) (Q : VK) : Prop := ∃ L os ws r, HR B.g B.Pv L os H ∧ RpWs B.g B.Pv L os H xs ws ∧ f os ws = some r ∧ ∀ v H', Same H H' → RpW B.g B.Pv L os H' v r → Q v H'
def mOp1 (f : List Ob → W → Option W) (m : FM W) : FM W := m.bind fun w s => match f s.os w with
  | some r => some (.ok r s)
  | none => none
def mOp2 (f : List Ob → W → W → Option W) (m m' : FM W) : FM W := m.bind fun w => m'.bind fun u s => match f s.os w u with
  | some r => some (.ok r s)
  | none => none
def mOpn (f : List Ob → List W → Option W) (m : FM (List W)) : FM W := m.bind fun w s => match f s.os w with
  | some r => some (.ok r s)
  | none => none
theorem fE.op1 {m : FM W} {f : List Ob → W → Option W} {σ : L2.St} {H : Hp} {Q : VK} (h : fE B (mOp1 f m) σ H Q) : fE B m σ H fun x H1 => rF1 B f x H1 Q := by
  obtain ⟨L, s, o, R, e, k⟩ := h
  refine fE.bind R e k.ex fun w s1 v H1 L1 e1 R1 r1 g1 => ?_
  split at e1
  · rename_i r hr
    cases e1
    exact ⟨L1, _, w, r, R1.hr, r1, hr, fun v' H' sm rv => k v' H' L1 (R1.same sm) rv (g1.trans (.same sm))⟩
  · cases e1
theorem fE.op2 {m m' : FM W} {f : List Ob → W → W → Option W} {σ : L2.St} {H : Hp} {Q : VK} (h : fE B (mOp2 f m m') σ H Q) : fE B m σ H fun x H1 => fE B m' σ H1 fun y H2 => rF2 B f x y H2 Q := by
  obtain ⟨L, s, o, R, e, k⟩ := h
  refine fE.bind R e k.ex fun w s1 v H1 L1 e1 R1 r1 g1 => ?_
  refine fE.bind R1 e1 k.ex fun u s2 x H2 L2 e2 R2 r2 g2 => ?_
  split at e2
  · rename_i r hr
    cases e2
    exact ⟨L2, _, w, u, r, R2.hr, RpW.mono R1.hr g2 r1, r2, hr, fun v' H' sm rv => k v' H' L2 (R2.same sm) rv ((g1.trans g2).trans (.same sm))⟩
  · cases e2
theorem fA.opn {m : FM (List W)} {f : List Ob → List W → Option W} {σ : L2.St} {H : Hp} {Q : VK} (h : fE B (mOpn f m) σ H Q) : fA B m σ H fun x H1 => rFn B f x H1 Q := by
  obtain ⟨L, s, o, R, e, k⟩ := h
  refine fA.bind R e k.ex fun w s1 v H1 L1 e1 R1 r1 g1 => ?_
  split at e1
  · rename_i r hr
    cases e1
    exact ⟨L1, _, w, r, R1.hr, r1, hr, fun v' H' sm rv => k v' H' L1 (R1.same sm) rv (g1.trans (.same sm))⟩
  · cases e1
/-- a binary operator, a comparison, a subscript, a call of a built-in -/
theorem f_bin {op : Operator} {f : List Ob → W → W → Option W} {a b : Expr} {m m' : FM W} {pos : Pos} (ho : OpR X (binaryOp op) (rF2 B f)) (ha : PE X a (fE B m)) (hb : PE X b (fE B m')) : PE X (.BinOp a op b pos) (fE B (mOp2 f m m')) :=
  PE.imp (pe_op ho ha hb) fun _ _ _ h => fE.op2 h
theorem f_cmp {op : CmpOp} {f : List Ob → W → W → Option W} {a b : Expr} {m m' : FM W} {pos : Pos} (ho : OpR X (compareOp op) (rF2 B f)) (ha : PE X a (fE B m)) (hb : PE X b (fE B m')) (hm : behindInMarks op b = false) : PE X (.Compare a [op] [b] pos) (fE B (mOp2 f m m')) :=
  PE.imp (pe_cmpR ho ha hb hm) fun _ _ _ h => fE.op2 h
theorem f_ix {f : List Ob → W → W → Option W} {a b : Expr} {m m' : FM W} {pos : Pos} (ho : IxR X (rF2 B f)) (ha : PE X a (fE B m)) (hb : PE X b (fE B m')) (hs : PlainIx b) : PE X (.Subscript a b pos) (fE B (mOp2 f m m')) :=
  PE.imp (pe_ix ho ha hb hs) fun _ _ _ h => fE.op2 h
theorem f_blt {id : String} {f : List Ob → List W → Option W} {x : Str} {e : Expr} {es : List Expr} {ms : FM (List W)} {p pos : Pos} (hc : CallR X (.builtin id) (rFn B f)) (hg : Gl X x) (hm : X.mg x = none) (hv : bootBuiltins x = some (.builtin id)) (ha : PA X (e :: es) (fA B ms)) (hn : x ≠ "__name__" := by decide) (hdb : (x == ("__debug__" : Str)) = false := by decide)
    (he : starEach (e :: es) X.env = (false, eval e X.env) :: starEach es X.env := by rfl) (hpl : (backTo pos (starEach es X.env)).any (·.1) = false := by rfl) : PE X (.Call (.Name x p) (e :: es) [] pos) (fE B (mOpn f ms)) :=
  PE.imp (pe_callB hc hg hm hv ha hn hdb he hpl) fun _ _ _ h => fA.opn h
theorem f_typ {T : String} {f : List Ob → List W → Option W} {x : Str} {e : Expr} {es : List Expr} {ms : FM (List W)} {p pos : Pos} (hc : CallR X (.type T) (rFn B f)) (hg : Gl X x) (hm : X.mg x = none) (hv : bootBuiltins x = some (.type T)) (ha : PA X (e :: es) (fA B ms)) (hn : x ≠ "__name__" := by decide) (hdb : (x == ("__debug__" : Str)) = false := by decide)
    (he : starEach (e :: es) X.env = (false, eval e X.env) :: starEach es X.env := by rfl) (hpl : (backTo pos (starEach es X.env)).any (·.1) = false := by rfl) : PE X (.Call (.Name x p) (e :: es) [] pos) (fE B (mOpn f ms)) :=
  PE.imp (pe_callTy hc hg hm hv ha hn hdb he hpl) fun _ _ _ h => fA.opn h
/-! ### displays -/
def W.data? : W → Option PyData
  | .d x => some x
  | _ => none
def datas : List W → Option (List PyData)
  | [] => some []
  | w :: ws => match w.data?, datas ws with
    | some x, some xs => some (x :: xs)
    | _, _ => none
theorem datas_rp {g : G} {Pv : Addr → Prop} {L : List Addr} {os : List Ob} {H : Hp} : ∀ {vs : List V} {ws : List W} {xs : List PyData}, RpWs g Pv L os H vs ws → datas ws = some xs → RpAll g.P g.w g.K H (fun a => live L os a ∨ Pv a) vs xs
  | _, _, _, .nil, e => by cases e; exact .nil
  | _, _, _, .cons (b := w) r t, e => by
    unfold datas at e
    split at e
    · rename_i x xs h1 h2
      cases e
      cases w with
      | d y => cases h1; exact .cons r (datas_rp t h2)
      | obj n => cases h1
      | exc e => cases h1
    · cases e
def big : Nat := 1000000
theorem big_line {n : Nat} (h : n ≤ big) : n ≤ sizeLine := by rw [sizeLine_eq]; unfold big at h; omega
def mTup (ms : FM (List W)) : FM W := ms.bind fun ws s => match datas ws with
  | some xs => if xs.length ≤ big then some (.ok (.d (.tuple xs)) s) else none
  | none => none
/-- a written list that nobody will change -/
def mLst (ms : FM (List W)) : FM W := ms.bind fun ws s => match datas ws with
  | some xs => if xs.length ≤ big then some (.ok (.d (.list xs)) s) else none
  | none => none
/-- a written list that will be changed: an object -/
def mBox (ms : FM (List W)) : FM W := ms.bind fun ws s => if ws.length ≤ big then some (.ok (.obj s.os.length) { s with os := s.os ++ [.lst ws] }) else none
theorem RpAll.length {P : Program} {w : World} {K : PySem.W.Frag} {H : Hp} {A : Addr → Prop} : ∀ {vs : List V} {xs : List PyData}, RpAll P w K H A vs xs → vs.length = xs.length
  | _, _, .nil => rfl
  | _, _, .cons _ t => by rw [List.length_cons, List.length_cons, RpAll.length t]
theorem RpAll.ws {g : G} {Pv : Addr → Prop} {L : List Addr} {os : List Ob} {H : Hp} : ∀ {vs : List V} {xs : List PyData}, RpAll g.P g.w g.K H (fun a => live L os a ∨ Pv a) vs xs → RpWs g Pv L os H vs (xs.map W.d)
  | _, _, .nil => .nil
  | _, _, .cons h t => .cons h (RpAll.ws t)
theorem new_same {H : Hp} {p : Addr} {o : HO} (h : H p = none) : Same H (upd H p o) := fun b x e => by
  rw [upd_ne (ne_of_none e h)]
  exact e
theorem f_tup {es : List Expr} {ms : FM (List W)} {pos : Pos} {x1} (h : PA X es (fA B ms)) : PE X (.Tuple es x1 pos) (fE B (mTup ms)) := by
  refine PE.imp (pe_tup h) fun σ H Q ⟨L, s, o, R, e, k⟩ => ?_
  refine fA.bind R e k.ex fun ws s1 vs H1 L1 e1 R1 r1 g1 => ?_
  split at e1
  · rename_i xs hx
    split at e1
    · rename_i hl
      cases e1
      have rr := datas_rp r1 hx
      refine ⟨by rw [rr.length]; exact big_line hl, fun p hp => ?_⟩
      have sm := new_same (o := .tup vs) hp
      refine k _ _ L1 (R1.same sm) ?_ (g1.trans (.same sm))
      exact .tup (.inl (.inl upd_same)) (RpAll.mono R1.hr (.same sm) rr)
    · cases e1
  · cases e1
theorem f_lst {es : List Expr} {ms : FM (List W)} {pos : Pos} (h : PA X es (fA B ms)) : PE X (.List es pos) (fE B (mLst ms)) := by
  refine PE.imp (pe_lst h) fun σ H Q ⟨L, s, o, R, e, k⟩ => ?_
  refine fA.bind R e k.ex fun ws s1 vs H1 L1 e1 R1 r1 g1 => ?_
  split at e1
  · rename_i xs hx
    split at e1
    · rename_i hl
      cases e1
      have rr := datas_rp r1 hx
      refine ⟨by rw [rr.length]; exact big_line hl, fun p hp => ?_⟩
      have sm := new_same (o := .lst vs) hp
      refine k _ _ L1 (R1.same sm) ?_ (g1.trans (.same sm))
      exact .lst (.inl upd_same) (fun z => z.elim (R1.hr.nolive hp) (R1.hr.nopv hp)) (RpAll.mono R1.hr (.same sm) rr)
    · cases e1
  · cases e1
theorem refs_d {p : Nat → Prop} : ∀ xs : List PyData, ∀ w ∈ xs.map W.d, w.ref p := fun xs w h => by
  obtain ⟨x, _, rfl⟩ := List.mem_map.mp h
  trivial
theorem RpW.lt {g : G} {Pv : Addr → Prop} {L : List Addr} {os : List Ob} {H : Hp} (R : HR g Pv L os H) {v : V} : ∀ {w : W}, RpW g Pv L os H v w → w.ref (· < os.length)
  | .d _, _ => trivial
  | .exc _, _ => trivial
  | .obj n, ⟨a, e, _⟩ => by
    show n < os.length
    rw [← R.len]
    exact (List.getElem?_eq_some_iff.mp e).1
theorem RpWs.lt {g : G} {Pv : Addr → Prop} {L : List Addr} {os : List Ob} {H : Hp} (R : HR g Pv L os H) : ∀ {vs : List V} {ws : List W}, RpWs g Pv L os H vs ws → ∀ w ∈ ws, w.ref (· < os.length)
  | _, _, .nil, _, h => nomatch h
  | _, _, .cons r t, w, h => by
    rcases List.mem_cons.mp h with rfl | h
    · exact RpW.lt R r
    · exact RpWs.lt R t w h
theorem f_box {es : List Expr} {ms : FM (List W)} {pos : Pos} (h : PA X es (fA B ms)) : PE X (.List es pos) (fE B (mBox ms)) := by
  refine PE.imp (pe_lst h) fun σ H Q ⟨L, s, o, R, e, k⟩ => ?_
  refine fA.bind R e k.ex fun ws s1 vs H1 L1 e1 R1 r1 g1 => ?_
  split at e1
  · rename_i hl
    cases e1
    refine ⟨by rw [Paired.length r1]; exact big_line hl, fun p hp => ?_⟩
    have sm := new_same (o := .lst vs) hp
    have gp := Gr.push (o := .lst ws) R1.hr hp sm
    have hp' := R1.hr.push (o := .lst ws) hp sm (fun w m => (RpWs.lt R1.hr r1 w m).mono fun n h => by omega) ⟨_, upd_same, nt_lst⟩ (.lst upd_same (RpWs.mono R1.hr gp r1))
    have R2 := R1.next (hp' fun q z => nomatch z) gp (Cf.push (o := .lst ws))
    rw [List.append_nil] at R2
    exact k _ _ _ R2 ⟨p, get_push.mpr (.inr ⟨R1.hr.len.symm, rfl⟩), rfl⟩ (g1.trans gp)
  · cases e1
end
end FL
namespace FL
open PySem PySem.Spec PyProof.Rows L2
/-! ### truth -/
def truthD : PyData → Option Bool
  | .none => some false
  | .bool b => some b
  | .int i => some (i != 0)
  | .str x => if x.length ≤ big then some (x.length != 0) else none
  | .list xs => some (!xs.isEmpty)
  | .tuple xs => some (!xs.isEmpty)
  | .dict _ => none
def truthO : Option Ob → Option Bool
  | some (.lst ws) => some (!ws.isEmpty)
  | _ => none
def truthW (os : List Ob) : W → Option Bool
  | .d x => truthD x
  | .obj n => truthO os[n]?
  | .exc _ => none
theorem isEmpty_paired {α β : Type} {F : α → β → Prop} {l : List α} {m : List β} (h : Paired F l m) : l.isEmpty = m.isEmpty := by cases h <;> rfl
theorem RpAll.isEmpty {P : Program} {w : World} {K : PySem.W.Frag} {H : Hp} {A : Addr → Prop} {vs : List V} {xs : List PyData} (h : RpAll P w K H A vs xs) : vs.isEmpty = xs.isEmpty := by cases h <;> rfl
theorem truthW_ok {g : G} {Pv : Addr → Prop} {L : List Addr} {os : List Ob} {H : Hp} {v : V} {w : W} {b : Bool} (R : HR g Pv L os H) (r : RpW g Pv L os H v w) (h : truthW os w = some b) : TruV g.K v H b := by
  cases w with
  | d x =>
    have r : Rp g.P g.w g.K H _ v x := r
    cases r with
    | non => cases h; rfl
    | bl _ => cases h; rfl
    | int _ => cases h; rfl
    | str x =>
      have h : (if x.length ≤ big then some (x.length != 0) else none) = some b := h
      split at h
      · rename_i hl
        cases h
        refine ⟨big_line hl, ?_⟩
        by_cases e : x.length = 0
        · rw [e]; rfl
        · have : ((x.length : Int) != 0) = true := bne_iff_ne.mpr (by omega)
          rw [this]
          exact bne_iff_ne.mpr e
      · cases h
    | tup hs ra => cases h; exact .inr (.inl ⟨_, hs, by rw [ra.isEmpty]⟩)
    | lst hs _ ra => cases h; exact .inl ⟨_, .inl hs, by rw [ra.isEmpty]⟩
    | dct => cases h
  | obj n =>
    obtain ⟨a, e, rfl⟩ := r
    have h : truthO os[n]? = some b := h
    cases ho : os[n]? with
    | none => rw [ho] at h; cases h
    | some o =>
      rw [ho] at h
      cases R.ob n a _ e ho with
      | lst hl rl => cases h; exact .inl ⟨_, .inl (.inl hl), by rw [isEmpty_paired rl]⟩
      | dead => cases h
      | dK => cases h
      | dN => cases h
      | ins => cases h
      | tab => cases h
  | exc e => cases h
def mTruth (m : FM W) : FM Bool := m.bind fun w s => match truthW s.os w with
  | some b => some (.ok b s)
  | none => none
def mBool (m : FM W) : FM Bool := m.bind fun w s => match w with
  | .d (.bool b) => some (.ok b s)
  | _ => none
def mAndT (t u : FM Bool) : FM Bool := t.bind fun b => bif b then u else FM.pure false
def mOrT (t u : FM Bool) : FM Bool := t.bind fun b => bif b then FM.pure true else u
def mNotT (t : FM Bool) : FM Bool := t.bind fun b => FM.pure (!b)
def mAndV (m m' : FM W) : FM W := m.bind fun w s => match truthW s.os w with
  | some true => m' s
  | some false => some (.ok w s)
  | none => none
def mOrV (m m' : FM W) : FM W := m.bind fun w s => match truthW s.os w with
  | some false => m' s
  | some true => some (.ok w s)
  | none => none
def mNotV (m : FM W) : FM W := m.bind fun w s => match truthW s.os w with
  | some b => some (.ok (.d (.bool !b)) s)
  | none => none
def mIfE (c : FM Bool) (m m' : FM W) : FM W := c.bind fun b => bif b then m else m'
section
variable {X : Cx} {B : Bs} {a b c : Expr} {rest : List Expr} {m m' : FM W} {t u : FM Bool} {pos : Pos}
theorem fE.truth {σ : L2.St} {H : Hp} {Q : Bool → Hp → Prop} (hK : X.K = B.g.K) (h : fT B (mTruth m) σ H Q) : fE B m σ H fun x H1 => ∃ k, TruV X.K x H1 k ∧ Q k H1 := by
  obtain ⟨L, s, o, R, e, k⟩ := h
  refine fE.bind R e k.ex fun w s1 v H1 L1 e1 R1 r1 g1 => ?_
  split at e1
  · rename_i q hq
    cases e1
    exact ⟨q, hK ▸ truthW_ok R1.hr r1 hq, k H1 L1 R1 g1⟩
  · cases e1
theorem f_truth (hK : X.K = B.g.K) (h : PE X a (fE B m)) (he : ∀ whole, isTrue a X.env whole = (do let v ← whole; standAt a.pos; holding [v] (truthy v)) := by intro _; rfl) : PT X a (fT B (mTruth m)) :=
  PT.imp (pt_truth h he) fun _ _ _ h => fE.truth hK h
theorem RpW.bool {g : G} {Pv : Addr → Prop} {L : List Addr} {os : List Ob} {H : Hp} {v : V} {k : Bool} (r : RpW g Pv L os H v (.d (.bool k))) : v = .bl k := by
  have r : Rp g.P g.w g.K H _ v (.bool k) := r
  cases r
  rfl
theorem fE.bool {σ : L2.St} {H : Hp} {Q : Bool → Hp → Prop} (h : fT B (mBool m) σ H Q) : fE B m σ H fun x H1 => ∃ k, x = .bl k ∧ Q k H1 := by
  obtain ⟨L, s, o, R, e, k⟩ := h
  refine fE.bind R e k.ex fun w s1 v H1 L1 e1 R1 r1 g1 => ?_
  split at e1
  · cases e1
    exact ⟨_, r1.bool, k H1 L1 R1 g1⟩
  · cases e1
theorem f_tcmp {op : CmpOp} {f : List Ob → W → W → Option W} (ho : OpR X (compareOp op) (rF2 B f)) (ha : PE X a (fE B m)) (hb : PE X b (fE B m')) (hm : behindInMarks op b = false) : PT X (.Compare a [op] [b] pos) (fT B (mBool (mOp2 f m m'))) :=
  PT.imp (pt_cmpR ho ha hb hm) fun σ H Q h => by
    have z := fE.bool h
    exact fE.op2 z
theorem f_tval (h : PE X a (fE B m)) (he : ∀ whole, isTrue a X.env whole = (do let v ← whole; standAt a.pos; holding [v] (truthy v)) := by intro _; rfl) : PT X a (fT B (mBool m)) :=
  PT.imp (pt_val h he) fun _ _ _ h => fE.bool h
theorem f_and1 (ha : PT X a (fT B t)) : PW X (.BoolOp .And [a] pos) (fT B t) := pw_and1 ha
theorem f_or1 (ha : PT X a (fT B t)) : PW X (.BoolOp .Or [a] pos) (fT B t) := pw_or1 ha
theorem ite_of {p : Bool} {P Q : Prop} (h : match p with | true => P | false => Q) : if p = true then P else Q := by
  cases p with
  | true => rw [if_pos rfl]; exact h
  | false => rw [if_neg (by decide)]; exact h
theorem f_andW (ha : PT X a (fT B t)) (hb : PW X (.BoolOp .And (b :: rest) pos) (fT B u)) : PW X (.BoolOp .And (a :: b :: rest) pos) (fT B (mAndT t u)) :=
  PW.imp (pw_and ha hb) fun σ H Q ⟨L, s, o, R, e, k⟩ => by
    refine fT.bind R e k.ex fun w s1 H1 L1 e1 R1 g1 => ite_of ?_
    cases w with
    | true => exact ⟨L1, s1, o, R1, e1, by
        cases o with
        | ok q s2 => exact fun H2 L2 R2 g2 => k H2 L2 R2 (g1.trans g2)
        | ex q s2 => exact k⟩
    | false => cases e1; exact k H1 L1 R1 g1
theorem f_orW (ha : PT X a (fT B t)) (hb : PW X (.BoolOp .Or (b :: rest) pos) (fT B u)) : PW X (.BoolOp .Or (a :: b :: rest) pos) (fT B (mOrT t u)) :=
  PW.imp (pw_or ha hb) fun σ H Q ⟨L, s, o, R, e, k⟩ => by
    refine fT.bind R e k.ex fun w s1 H1 L1 e1 R1 g1 => ite_of ?_
    cases w with
    | false => exact ⟨L1, s1, o, R1, e1, by
        cases o with
        | ok q s2 => exact fun H2 L2 R2 g2 => k H2 L2 R2 (g1.trans g2)
        | ex q s2 => exact k⟩
    | true => cases e1; exact k H1 L1 R1 g1
theorem f_tnot (ha : PT X a (fT B t)) : PT X (.UnaryOp .Not a pos) (fT B (mNotT t)) :=
  PT.imp (pt_not ha) fun σ H Q ⟨L, s, o, R, e, k⟩ => by
    refine fT.bind R e k.ex fun w s1 H1 L1 e1 R1 g1 => ?_
    cases e1
    exact k H1 L1 R1 g1
theorem f_andV1 {op} (ha : PE X a (fE B m)) : PE X (.BoolOp op [a] pos) (fE B m) := pe_one ha
theorem f_andV (hK : X.K = B.g.K) (ha : PE X a (fE B m)) (hb : PE X (.BoolOp .And (b :: rest) pos) (fE B m')) : PE X (.BoolOp .And (a :: b :: rest) pos) (fE B (mAndV m m')) :=
  PE.imp (pe_andT ha hb) fun σ H Q ⟨L, s, o, R, e, k⟩ => by
    refine fE.bind R e k.ex fun w s1 v H1 L1 e1 R1 r1 g1 => ?_
    split at e1
    · rename_i hq
      refine ⟨true, hK ▸ truthW_ok R1.hr r1 hq, ?_⟩
      rw [if_pos rfl]
      exact ⟨L1, s1, o, R1, e1, by
        cases o with
        | ok q s2 => exact fun v2 H2 L2 R2 r2 g2 => k v2 H2 L2 R2 r2 (g1.trans g2)
        | ex q s2 => exact k⟩
    · rename_i hq
      cases e1
      refine ⟨false, hK ▸ truthW_ok R1.hr r1 hq, ?_⟩
      rw [if_neg (by decide)]
      exact k v H1 L1 R1 r1 g1
    · cases e1
theorem f_orV (hK : X.K = B.g.K) (ha : PE X a (fE B m)) (hb : PE X (.BoolOp .Or (b :: rest) pos) (fE B m')) : PE X (.BoolOp .Or (a :: b :: rest) pos) (fE B (mOrV m m')) :=
  PE.imp (pe_orT ha hb) fun σ H Q ⟨L, s, o, R, e, k⟩ => by
    refine fE.bind R e k.ex fun w s1 v H1 L1 e1 R1 r1 g1 => ?_
    split at e1
    · rename_i hq
      refine ⟨false, hK ▸ truthW_ok R1.hr r1 hq, ?_⟩
      rw [if_neg (by decide)]
      exact ⟨L1, s1, o, R1, e1, by
        cases o with
        | ok q s2 => exact fun v2 H2 L2 R2 r2 g2 => k v2 H2 L2 R2 r2 (g1.trans g2)
        | ex q s2 => exact k⟩
    · rename_i hq
      cases e1
      refine ⟨true, hK ▸ truthW_ok R1.hr r1 hq, ?_⟩
      rw [if_pos rfl]
      exact k v H1 L1 R1 r1 g1
    · cases e1
theorem f_notV (hK : X.K = B.g.K) (ha : PE X a (fE B m)) : PE X (.UnaryOp .Not a pos) (fE B (mNotV m)) :=
  PE.imp (pe_notT ha) fun σ H Q ⟨L, s, o, R, e, k⟩ => by
    refine fE.bind R e k.ex fun w s1 v H1 L1 e1 R1 r1 g1 => ?_
    split at e1
    · rename_i q hq
      cases e1
      exact ⟨q, hK ▸ truthW_ok R1.hr r1 hq, k _ H1 L1 R1 (.bl _) g1⟩
    · cases e1
theorem f_ifE (hc : PT X c (fT B t)) (ha : PE X a (fE B m)) (hb : PE X b (fE B m')) : PE X (.IfExp c a b pos) (fE B (mIfE t m m')) :=
  PE.imp (pe_ifExp hc ha hb) fun σ H Q ⟨L, s, o, R, e, k⟩ => by
    refine fT.bind R e k.ex fun w s1 H1 L1 e1 R1 g1 => ite_of ?_
    have fin : KE B o fun w s2 => ∀ v2 H2 L2, RS B L2 s2 σ H2 → RpW B.g B.Pv L2 s2.os H2 v2 w → Gr L1 s1.os H1 L2 s2.os H2 → Q v2 H2 := by
      cases o with
      | ok q s2 => exact fun v2 H2 L2 R2 r2 g2 => k v2 H2 L2 R2 r2 (g1.trans g2)
      | ex q s2 => exact k
    cases w with
    | true => exact ⟨L1, s1, o, R1, e1, fin⟩
    | false => exact ⟨L1, s1, o, R1, e1, fin⟩
end
/-! ### statements -/
def mSeq (m u : FM Fl) : FM Fl := m.bind fun f => match f with
  | .nx => u
  | .rt w => FM.pure (.rt w)
  | .bk => FM.pure .bk
  | .ct => FM.pure .ct
def mNext : FM Fl := FM.pure .nx
def mBrk : FM Fl := FM.pure .bk
def mCnt : FM Fl := FM.pure .ct
def mExpr (m : FM W) : FM Fl := m.bind fun _ => FM.pure .nx
def mRet (m : FM W) : FM Fl := m.bind fun w => FM.pure (.rt w)
def mRetN : FM Fl := FM.pure (.rt (.d .none))
def mIf (c : FM Bool) (a b : FM Fl) : FM Fl := c.bind fun t => bif t then a else b
/-- a target: what an assignment of a value does -/
abbrev FG := W → FM Unit
def gSet (i : Nat) : FG := fun w s => some (.ok () { s with sl := s.sl.set i (some w) })
def mAsg (m : FM W) (t : FG) : FM Fl := m.bind fun w => (t w).bind fun _ => FM.pure .nx
def fG (B : Bs) (t : FG) : TG := fun v σ H Q => ∃ L s w o, RS B L s σ H ∧ RpW B.g B.Pv L s.os H v w ∧ t w s = some o ∧ KE B o fun _ s1 => ∀ σ1 H1 L1, RS B L1 s1 σ1 H1 → Gr L s.os H L1 s1.os H1 → Q σ1 H1
def fGs (B : Bs) (t : List W → FM Unit) : TGs := fun vs σ H Q => ∃ L s ws o, RS B L s σ H ∧ RpWs B.g B.Pv L s.os H vs ws ∧ t ws s = some o ∧ KE B o fun _ s1 => ∀ σ1 H1 L1, RS B L1 s1 σ1 H1 → Gr L s.os H L1 s1.os H1 → Q σ1 H1
theorem PG.imp {X : Cx} {e : Expr} {t t' : TG} (h : PG X e t) (k : ∀ v σ H Q, t' v σ H Q → t v σ H Q) : PG X e t' := ⟨fun pins s σ H v u Q I r q => h.run pins s σ H v u Q I r (k _ _ _ _ q)⟩
theorem PGs.imp {X : Cx} {e : List Expr} {t t' : TGs} (h : PGs X e t) (k : ∀ v σ H Q, t' v σ H Q → t v σ H Q) : PGs X e t' := ⟨fun pins s σ H v u Q I r q => h.run pins s σ H v u Q I r (k _ _ _ _ q)⟩
section
variable {X : Cx} {B : Bs} {a b c e : Expr} {st : Stmt} {rest : List Stmt} {m m' : FM W} {u v : FM Fl} {t : FM Bool} {pos : Pos}
theorem fs_nil : PSs X [] (fS B mNext) := PSs.imp pss_nil fun D σ H ⟨L, s, o, R, e, k⟩ => by
  cases e
  exact k σ H L R .refl
theorem fs_one (h : PS X st (fS B u)) : PSs X [st] (fS B u) := pss_one h
theorem fs_cons (h1 : PS X st (fS B u)) (h2 : PSs X rest (fS B v)) : PSs X (st :: rest) (fS B (mSeq u v)) :=
  PSs.imp (pss_cons h1 h2) fun D σ H ⟨L, s, o, R, e, k⟩ => by
    rcases bind_some e with ⟨f, s1, e1, e2⟩ | ⟨x, s1, e1, rfl⟩
    · refine ⟨L, s, _, R, e1, fun σ1 H1 L1 R1 g1 => ?_⟩
      cases f with
      | nx => exact ⟨L1, s1, o, R1, e2, by
          cases o with
          | ok q s2 => exact fun σ2 H2 L2 R2 g2 => k σ2 H2 L2 R2 (g1.trans g2)
          | ex q s2 => exact k⟩
      | rt w => cases e2; exact k σ1 H1 L1 R1 g1
      | bk => cases e2; exact k σ1 H1 L1 R1 g1
      | ct => cases e2; exact k σ1 H1 L1 R1 g1
    · exact ⟨L, s, _, R, e1, k⟩
theorem fs_pass : PS X (.Pass pos) (fS B mNext) := PS.imp ps_pass fun D σ H ⟨L, s, o, R, e, k⟩ => by
  cases e
  exact k σ H L R .refl
theorem fs_brk : PS X (.Break pos) (fS B mBrk) := PS.imp ps_break fun D σ H ⟨L, s, o, R, e, k⟩ => by
  cases e
  exact k σ H L R .refl
theorem fs_cnt : PS X (.Continue pos) (fS B mCnt) := PS.imp ps_continue fun D σ H ⟨L, s, o, R, e, k⟩ => by
  cases e
  exact k σ H L R .refl
theorem fs_expr (h : PE X e (fE B m)) (hs : swapsWith e none pos.line X.env = pure false := by rfl) : PS X (.Expr e pos) (fS B (mExpr m)) :=
  PS.imp (ps_expr h hs) fun D σ H ⟨L, s, o, R, e, k⟩ => by
    refine fE.bind R e k.ex fun w s1 v H1 L1 e1 R1 r1 g1 => ?_
    cases e1
    exact k σ H1 L1 R1 g1
theorem fs_ret (h : PE X e (fE B m)) : PS X (.Return (some e) pos) (fS B (mRet m)) :=
  PS.imp (ps_ret h) fun D σ H ⟨L, s, o, R, e, k⟩ => by
    refine fE.bind R e k.ex fun w s1 v H1 L1 e1 R1 r1 g1 => ?_
    cases e1
    exact k σ H1 L1 R1 g1 v r1
theorem fs_retN : PS X (.Return none pos) (fS B mRetN) :=
  PS.imp ps_retN fun D σ H ⟨L, s, o, R, e, k⟩ => by
    cases e
    exact k σ H L R .refl .non .non
theorem fs_if {p q : List Stmt} (hc : PT X c (fT B t)) (ha : PSs X p (fS B u)) (hb : PSs X q (fS B v)) : PS X (.If c p q pos) (fS B (mIf t u v)) :=
  PS.imp (ps_if hc ha hb) fun D σ H ⟨L, s, o, R, e, k⟩ => by
    refine fT.bind R e k.ex fun w s1 H1 L1 e1 R1 g1 => ite_of ?_
    have fin : KE B o fun f s2 => ∀ σ2 H2 L2, RS B L2 s2 σ2 H2 → Gr L1 s1.os H1 L2 s2.os H2 → match f with
      | .nx => D.nx σ2 H2
      | .rt w => ∀ v, RpW B.g B.Pv L2 s2.os H2 v w → D.rt v H2
      | .bk => D.bk σ2 H2
      | .ct => D.ct σ2 H2 := by
      cases o with
      | ok q s2 => exact fun σ2 H2 L2 R2 g2 => k σ2 H2 L2 R2 (g1.trans g2)
      | ex q s2 => exact k
    cases w with
    | true => exact ⟨L1, s1, o, R1, e1, fin⟩
    | false => exact ⟨L1, s1, o, R1, e1, fin⟩
theorem fg_name {i : Nat} {x : Str} {pos : Pos} (h : PG X (.Name x pos) (gName i)) : PG X (.Name x pos) (fG B (gSet i)) :=
  PG.imp h fun v σ H Q ⟨L, s, w, o, R, r, e, k⟩ => by
    cases e
    exact k _ H L (R.set r) .refl
theorem fs_asg {g : FG} (he : PE X e (fE B m)) (hg : PG X a (fG B g)) (hs : swapsWithSole [a] e pos.line X.env = pure false := by rfl) (hw : swappedStores [a] e X.env = pure none := by rfl)
    (h1 : (assignEach [a] X.env).map (·.2) = [assign a X.env] := by rfl) : PS X (.Assign [a] e pos) (fS B (mAsg m g)) :=
  PS.imp (ps_asg he hg hs hw h1) fun D σ H ⟨L, s, o, R, e, k⟩ => by
    refine fE.bind R e k.ex fun w s1 v H1 L1 e1 R1 r1 g1 => ?_
    rcases bind_some e1 with ⟨_, s2, e2, e3⟩ | ⟨x, s2, e2, rfl⟩
    · cases e3
      exact ⟨L1, s1, w, _, R1, r1, e2, fun σ2 H2 L2 R2 g2 => k σ2 H2 L2 R2 (g1.trans g2)⟩
    · exact ⟨L1, s1, w, _, R1, r1, e2, k⟩
theorem fs_set {i : Nat} {x : Str} {pos' : Pos} (hN : X.N.Nodup) (hi : X.N[i]? = some x) (hx : Loc X.env.scope x) (he : PE X e (fE B m)) (hs : swapsWith e (some (.Name x pos')) pos.line X.env = pure false := by rfl) (hf : X.fn x = true ∨ X.env.scope.names.lookup x = some .local := by first | exact .inl rfl | exact .inr rfl | assumption) :
    PS X (.Assign [.Name x pos'] e pos) (fS B (mAsg m (gSet i))) :=
  PS.imp (ps_set hN hi hx he hs hf) fun D σ H ⟨L, s, o, R, e, k⟩ => by
    refine fE.bind R e k.ex fun w s1 v H1 L1 e1 R1 r1 g1 => ?_
    cases e1
    exact k _ H1 L1 (R1.set r1) g1
/-! ### while -/
def iterW (c : FM Bool) (b : FM Fl) : Nat → FM Fl
  | 0 => fun _ => none
  | n + 1 => c.bind fun t => bif t then b.bind fun f => (match f with
      | .nx => iterW c b n
      | .ct => iterW c b n
      | .bk => FM.pure .nx
      | .rt w => FM.pure (.rt w)) else FM.pure .nx
theorem bind_mono {α β : Type} {m : FM α} {f f' : α → FM β} {s : AS} {o : Oc β} (k : ∀ a s o, f a s = some o → f' a s = some o) (h : FM.bind m f s = some o) : FM.bind m f' s = some o := by
  unfold FM.bind at h ⊢
  split at h
  · exact k _ _ _ h
  · exact h
  · cases h
theorem iterW_step {c : FM Bool} {b : FM Fl} : ∀ {n : Nat} {s : AS} {o : Oc Fl}, iterW c b n s = some o → iterW c b (n + 1) s = some o
  | 0, _, _, h => nomatch h
  | n + 1, s, o, h => by
    unfold iterW at h ⊢
    refine bind_mono (fun t s o h => ?_) h
    cases t with
    | false => exact h
    | true =>
      refine bind_mono (fun f s o h => ?_) h
      cases f with
      | nx => exact iterW_step h
      | ct => exact iterW_step h
      | bk => exact h
      | rt w => exact h
theorem iterW_le {c : FM Bool} {b : FM Fl} {n m : Nat} {s : AS} {o : Oc Fl} (h : iterW c b n s = some o) (l : n ≤ m) : iterW c b m s = some o := by
  induction l with
  | refl => exact h
  | step _ ih => exact iterW_step ih
open Classical in
noncomputable def mWhile (c : FM Bool) (b : FM Fl) : FM Fl := fun s => if h : ∃ p : Nat × Oc Fl, iterW c b p.1 s = some p.2 then some (Classical.choose h).2 else none
theorem mWhile_of {c : FM Bool} {b : FM Fl} {n : Nat} {s : AS} {o : Oc Fl} (h : iterW c b n s = some o) : mWhile c b s = some o := by
  have ex : ∃ p : Nat × Oc Fl, iterW c b p.1 s = some p.2 := ⟨(n, o), h⟩
  unfold mWhile
  rw [dif_pos ex]
  have h2 := Classical.choose_spec ex
  have h3 := iterW_le h (Nat.le_max_left n (Classical.choose ex).1)
  have h4 := iterW_le h2 (Nat.le_max_right n (Classical.choose ex).1)
  rw [h3] at h4
  exact h4.symm
theorem mWhile_some {c : FM Bool} {b : FM Fl} {s : AS} {o : Oc Fl} (h : mWhile c b s = some o) : ∃ n, iterW c b n s = some o := by
  unfold mWhile at h
  split at h
  · rename_i ex
    cases h
    exact ⟨_, Classical.choose_spec ex⟩
  · cases h
/-- one turn of a while -/
theorem mWhile_eq {c : FM Bool} {b : FM Fl} {s : AS} {o : Oc Fl} (h : (c.bind fun t => bif t then b.bind fun f => (match f with
      | .nx => mWhile c b
      | .ct => mWhile c b
      | .bk => FM.pure .nx
      | .rt w => FM.pure (.rt w)) else FM.pure .nx) s = some o) : mWhile c b s = some o := by
  rcases bind_some h with ⟨t, s1, e1, e2⟩ | ⟨x, s1, e1, rfl⟩
  · cases t with
    | false => exact mWhile_of (n := 1) (by show FM.bind c _ s = _; unfold FM.bind; rw [e1]; exact e2)
    | true =>
      rcases bind_some e2 with ⟨f, s2, e3, e4⟩ | ⟨x, s2, e3, rfl⟩
      · have key : ∀ n : Nat, (∀ o, (match f with
            | .nx => mWhile c b
            | .ct => mWhile c b
            | .bk => FM.pure .nx
            | .rt w => FM.pure (.rt w)) s2 = some o → (match f with
            | .nx => iterW c b n
            | .ct => iterW c b n
            | .bk => FM.pure .nx
            | .rt w => FM.pure (.rt w)) s2 = some o) → mWhile c b s = some o := fun n hn => by
          refine mWhile_of (n := n + 1) ?_
          show FM.bind c _ s = _
          unfold FM.bind
          rw [e1]
          show FM.bind b _ s1 = _
          unfold FM.bind
          rw [e3]
          exact hn o e4
        cases f with
        | nx =>
          obtain ⟨n, hn⟩ := mWhile_some e4
          exact key n fun o' q => by
            have : o' = o := Option.some.inj (q.symm.trans e4)
            subst this
            exact hn
        | ct =>
          obtain ⟨n, hn⟩ := mWhile_some e4
          exact key n fun o' q => by
            have : o' = o := Option.some.inj (q.symm.trans e4)
            subst this
            exact hn
        | bk => exact key 0 fun _ q => q
        | rt w => exact key 0 fun _ q => q
      · exact mWhile_of (n := 1) (by
          show FM.bind c _ s = _
          unfold FM.bind
          rw [e1]
          show FM.bind b _ s1 = _
          unfold FM.bind
          rw [e3])
  · exact mWhile_of (n := 1) (by show FM.bind c _ s = _; unfold FM.bind; rw [e1])
theorem fs_while {body : List Stmt} (hp : PassesOwn (model X.prog X.w) X.A X.env X.xe) (hc : PT X c (fT B t)) (hb : PSs X body (fS B u)) : PS X (.While c body [] pos) (fS B (mWhile t u)) :=
  PS.imp (ps_while hp hc hb) fun D σ H ⟨L, s, o, R, e, k⟩ => by
    obtain ⟨n, hn⟩ := mWhile_some e
    refine ⟨fun m σ H => ∃ L2 s2, RS B L2 s2 σ H ∧ iterW t u m s2 = some o ∧ (KE B o fun f s3 => ∀ σ3 H3 L3, RS B L3 s3 σ3 H3 → Gr L2 s2.os H L3 s3.os H3 → match f with
      | .nx => D.nx σ3 H3
      | .rt w => ∀ v, RpW B.g B.Pv L3 s3.os H3 v w → D.rt v H3
      | .bk => D.bk σ3 H3
      | .ct => D.ct σ3 H3), ⟨n, L, s, R, hn, k⟩, fun m σ H ⟨L, s, R, e, k⟩ => ?_⟩
    cases m with
    | zero => cases e
    | succ m =>
      refine fT.bind R e k.ex fun w s1 H1 L1 e1 R1 g1 => ite_of ?_
      have mv : ∀ {L' s' H'}, Gr L s.os H L' s'.os H' → KE B o fun f s3 => ∀ σ3 H3 L3, RS B L3 s3 σ3 H3 → Gr L' (AS.os s') H' L3 s3.os H3 → match f with
          | .nx => D.nx σ3 H3
          | .rt w => ∀ v, RpW B.g B.Pv L3 s3.os H3 v w → D.rt v H3
          | .bk => D.bk σ3 H3
          | .ct => D.ct σ3 H3 := fun {L' s' H'} gr => by
        cases o with
        | ok q s3 => exact fun σ3 H3 L3 R3 g3 => k σ3 H3 L3 R3 (gr.trans g3)
        | ex q s3 => exact k
      cases w with
      | false => cases e1; exact k σ H1 L1 R1 g1
      | true =>
        refine ⟨fun σ' H' => ∃ L2 s2, RS B L2 s2 σ' H' ∧ iterW t u m s2 = some o ∧ (KE B o fun f s3 => ∀ σ3 H3 L3, RS B L3 s3 σ3 H3 → Gr L2 s2.os H' L3 s3.os H3 → match f with
          | .nx => D.nx σ3 H3
          | .rt w => ∀ v, RpW B.g B.Pv L3 s3.os H3 v w → D.rt v H3
          | .bk => D.bk σ3 H3
          | .ct => D.ct σ3 H3), fun σ' H' q => ⟨m, Nat.lt_succ_self m, q⟩, ?_⟩
        rcases bind_some e1 with ⟨f, s2, e2, e3⟩ | ⟨x, s2, e2, rfl⟩
        · refine ⟨L1, s1, _, R1, e2, fun σ2 H2 L2 R2 g2 => ?_⟩
          cases f with
          | nx => exact ⟨L2, s2, R2, e3, mv (g1.trans g2)⟩
          | ct => exact ⟨L2, s2, R2, e3, mv (g1.trans g2)⟩
          | bk => cases e3; exact k σ2 H2 L2 R2 (g1.trans g2)
          | rt w => cases e3; exact k σ2 H2 L2 R2 (g1.trans g2)
        · exact ⟨L1, s1, _, R1, e2, k⟩
end
end FL
namespace FL
open PySem PySem.Spec PyProof.Rows L2
/-! ### a def's promise -/
def KR (g : G) (Pv : Addr → Prop) (L : List Addr) (os : List Ob) (H : Hp) (Q : VK) (E : XK) : Rs → Prop
  | .ok w os' es => ∀ v H' L', HR g Pv L' os' H' → Gr L os H L' os' H' → Cf os os' es → RpW g Pv L' os' H' v w → Q v H'
  | .ex e os' es => ∀ cls d H' L', HR g Pv L' os' H' → Gr L os H L' os' H' → Cf os os' es → ExP g (fun a => live L' os' a ∨ Pv a) e cls d H' → E cls d H'
def spF (g : G) (n : Nat) (F : Fn) : Sp := fun vs H Q E => ∃ Pv L os ws r, ws.length = n ∧ HR g Pv L os H ∧ RpWs g Pv L os H vs ws ∧ F ws os = some r ∧ KR g Pv L os H Q E r
/-- a def that may be called -/
structure Cal (g : G) (mg : Str → Option Value) (base : Heap) (x : Str) (k : Nat) (ps : List Str) (F : Fn) : Prop where
  ex : ∃ (f : Addr) (fd : FuncData), mg x = some (.ref f) ∧ PySem.W.keepIn g.K (.ref f) = true ∧ Binds g.K fd ps [] ∧ FnOk g.P g.w g.K mg base (L2.CX g.P g.w) k f fd ps (spF g ps.length F)
/-- a method -/
structure Met (g : G) (mg : Str → Option Value) (base : Heap) (c m : Str) (k : Nat) (ps : List Str) (F : Fn) : Prop where
  ex : ∃ (C f : Addr) (fd : FuncData), g.T.cls c = some C ∧ Cls g.K C ∧ L2.Meth g.K C m f ∧ Binds g.K fd ps [] ∧ FnOk g.P g.w g.K mg base (L2.CX g.P g.w) k f fd ps (spF g ps.length F)
/-- a class that may be made -/
structure Mak (g : G) (mg : Str → Option Value) (base : Heap) (x c : Str) (k : Nat) (ps : List Str) (F : Fn) : Prop where
  ex : ∃ (C f : Addr) (fd : FuncData), mg x = some (.ref C) ∧ g.T.cls c = some C ∧ Mk g.K C f ∧ Binds g.K fd ps [] ∧ FnOk g.P g.w g.K mg base (L2.CX g.P g.w) k f fd ps (spF g ps.length F)
/-- X stands in the program of g -/
structure On (X : Cx) (g : G) (mg : Str → Option Value) (base : Heap) : Prop where
  p : X.prog = g.P
  w : X.w = g.w
  k : X.K = g.K
  m : X.mg = mg
  b : X.base = base
def backR (s : AS) : Rs → Oc W
  | .ok w os' es => .ok w { s with os := os', es := s.es ++ es }
  | .ex e os' es => .ex e { s with os := os', es := s.es ++ es }
def run1 (n : Nat) (F : Fn) (ws : List W) : FM W := fun s => if ws.length = n then (F ws s.os).map (backR s) else none
def mCall (n : Nat) (F : Fn) (ms : FM (List W)) : FM W := ms.bind (run1 n F)
def classOf (os : List Ob) : W → Option Str
  | .obj n => match os[n]? with
    | some (.ins c _) => some c
    | _ => none
  | _ => none
/-- a method without the name of an attribute -/
def attrO : Option Ob → List Str
  | some (.ins _ fs) => fs.map (·.1)
  | _ => []
def attrsOf (os : List Ob) : W → List Str
  | .obj n => attrO os[n]?
  | _ => []
theorem lookup_none {β : Type} {m : Str} : ∀ {vs : List (Str × β)}, m ∉ vs.map (·.1) → vs.lookup m = none
  | [], _ => rfl
  | (p1, p2) :: r, h => by
    rw [List.lookup_cons]
    cases b : (m == p1) with
    | true => exact absurd (by rw [LawfulBEq.eq_of_beq b]; exact List.mem_cons_self) h
    | false => exact lookup_none fun z => h (List.mem_cons_of_mem _ z)
def mMeth (c m : Str) (n : Nat) (F : Fn) (mo : FM W) (ms : FM (List W)) : FM W := mo.bind fun w s => if classOf s.os w = some c ∧ m ∉ attrsOf s.os w then (ms.bind fun ws => run1 n F (w :: ws)) s else none
def newIns (c : Str) (s : AS) : AS := { s with os := s.os ++ [.ins c []] }
def mMake (c : Str) (n : Nat) (F : Fn) (ms : FM (List W)) : FM W := ms.bind fun ws s => match run1 n F (.obj s.os.length :: ws) (newIns c s) with
  | some (.ok (.d .none) s1) => some (.ok (.obj s.os.length) s1)
  | some (.ex e s1) => some (.ex e s1)
  | _ => none
section
variable {X : Cx} {B : Bs} {mg : Str → Option Value} {base : Heap} {x : Str} {k : Nat} {ps : List Str} {F : Fn} {e : Expr} {es : List Expr} {ms : FM (List W)} {p pos : Pos}
theorem spF.len {g : G} {n : Nat} : ∀ vs H Q E, spF g n F vs H Q E → vs.length = n := fun vs H Q E ⟨Pv, L, os, ws, r, h, _, q, _⟩ => by rw [Paired.length q]; exact h
/-- behind a call: what was wanted of the expression -/
theorem KR.of {σ : L2.St} {H : Hp} {Q : VK} {L : List Addr} {s : AS} {r : Rs} (R : RS B L s σ H) (k : KE B (backR s r) fun w s1 => ∀ v H1 L1, RS B L1 s1 σ H1 → RpW B.g B.Pv L1 s1.os H1 v w → Gr L s.os H L1 s1.os H1 → Q v H1) : KR B.g B.Pv L s.os H Q B.E r := by
  cases r with
  | ok w os' es => exact fun v H' L' h gr c rv => k v H' L' (R.next h gr c) rv gr
  | ex e os' es => exact fun cls d H' L' h gr c x => k cls d H' L' h (R.gr.trans gr) (R.cf.trans R.gr.len c) x
theorem KR.imp {g : G} {Pv : Addr → Prop} {L : List Addr} {os : List Ob} {H : Hp} {Q Q' : VK} {E : XK} {r : Rs} (h : KR g Pv L os H Q E r) (k : ∀ v H, Q v H → Q' v H) : KR g Pv L os H Q' E r := by
  cases r with
  | ok w os' es => exact fun v H' L' a b c d => k _ _ (h v H' L' a b c d)
  | ex e os' es => exact h
theorem run1.kr {σ : L2.St} {H : Hp} {Q : VK} {L : List Addr} {s : AS} {ws : List W} {vs : List V} {n : Nat} {F : Fn} {o : Oc W} (R : RS B L s σ H) (rv : RpWs B.g B.Pv L s.os H vs ws) (e : run1 n F ws s = some o) (k : KE B o fun w s1 => ∀ v H1 L1, RS B L1 s1 σ H1 → RpW B.g B.Pv L1 s1.os H1 v w → Gr L s.os H L1 s1.os H1 → Q v H1) :
    spF B.g n F vs H Q B.E := by
  unfold run1 at e
  split at e
  · rename_i hl
    cases hF : F ws s.os with
    | none => rw [hF] at e; cases e
    | some r =>
      rw [hF] at e
      cases e
      exact ⟨B.Pv, L, s.os, ws, r, hl, R.hr, rv, hF, KR.of R k⟩
  · cases e
theorem f_call (O : On X B.g mg base) (C : Cal B.g mg base x k ps F) (hr : Room k X.A) (tk : Takes X (fun cls d _ H => B.E cls d H)) (ha : PA X (e :: es) (fA B ms)) (hg : Gl X x)
    (hdb : (x == ("__debug__" : Str)) = false := by decide) (he : starEach (e :: es) X.env = (false, eval e X.env) :: starEach es X.env := by rfl) (hpl : (backTo pos (starEach es X.env)).any (·.1) = false := by rfl) :
    PE X (.Call (.Name x p) (e :: es) [] pos) (fE B (mCall ps.length F ms)) := by
  obtain ⟨f, fd, hm, hk, hb, Fo⟩ := C.ex
  have Fo' : FnOk X.prog X.w X.K X.mg X.base (L2.CX X.prog X.w) k f fd ps (spF B.g ps.length F) := by rw [O.p, O.w, O.k, O.m, O.b]; exact Fo
  refine PE.imp (pe_call Fo' hr hg (by rw [O.m]; exact hm) (by rw [O.k]; exact hk) (by rw [O.k]; exact hb) .nil (passes_call tk fun _ _ _ _ h => h) ha hdb he hpl) fun σ H Q ⟨L, s, o, R, e, k⟩ => ?_
  refine fA.bind R e k.ex fun ws s1 vs H1 L1 e1 R1 r1 g1 => ?_
  rw [List.append_nil]
  refine run1.kr R1 r1 e1 ?_
  cases o with
  | ok w s2 => exact fun v H2 L2 R2 r2 g2 => k v H2 L2 R2 r2 (g1.trans g2)
  | ex x s2 => exact k
theorem f_call0 (O : On X B.g mg base) (C : Cal B.g mg base x k [] F) (hr : Room k X.A) (tk : Takes X (fun cls d _ H => B.E cls d H)) (hg : Gl X x)
    (hdb : (x == ("__debug__" : Str)) = false := by decide) : PE X (.Call (.Name x p) [] [] pos) (fE B (mCall 0 F mNil)) := by
  obtain ⟨f, fd, hm, hk, hb, Fo⟩ := C.ex
  have Fo' : FnOk X.prog X.w X.K X.mg X.base (L2.CX X.prog X.w) k f fd [] (spF B.g 0 F) := by rw [O.p, O.w, O.k, O.m, O.b]; exact Fo
  refine PE.imp (pe_call0 Fo' hr hg (by rw [O.m]; exact hm) (by rw [O.k]; exact hk) (by rw [O.k]; exact hb) .nil (passes_call tk fun _ _ _ _ h => h) hdb) fun σ H Q ⟨L, s, o, R, e, k⟩ => ?_
  have e : run1 0 F [] s = some o := e
  exact run1.kr R .nil e k
theorem classOf_some {os : List Ob} {w : W} {c : Str} (h : classOf os w = some c) : ∃ (n : Nat) (fs : List (Str × W)), w = .obj n ∧ os[n]? = some (.ins c fs) := by
  cases w with
  | obj n =>
    have h : (match os[n]? with | some (.ins c _) => some c | _ => none) = some c := h
    split at h
    · cases h; exact ⟨n, _, rfl, by assumption⟩
    · cases h
  | d x => cases h
  | exc e => cases h
theorem f_meth {c m : Str} {o : Expr} {mo : FM W} {apos : Pos} {pl : Sem Bool} (O : On X B.g mg base) (C : Met B.g mg base c m k ps F) (hr : Room k X.A) (tk : Takes X (fun cls d _ H => B.E cls d H)) (ho : PE X o (fE B mo)) (ha : PA X (e :: es) (fA B ms))
    (hst : starEach (e :: es) X.env = (false, eval e X.env) :: starEach es X.env := by rfl) (hpl : (backTo pos (starEach es X.env)).any (·.1) = false := by rfl)
    (ht : eval (.Call (.Attribute o m apos) (e :: es) [] pos) X.env = (do
      let ov ← eval o X.env
      standAt apos.atName
      let (f, first) ← holding [ov] (getMethod ov m pl)
      callWith pos f first (backTo pos (starEach (e :: es) X.env)) (backToKw pos (keywordEach [] X.env))) := by rfl) :
    PE X (.Call (.Attribute o m apos) (e :: es) [] pos) (fE B (mMeth c m ps.length F mo ms)) := by
  obtain ⟨Ca, f, fd, hc, cl, me, hb, Fo⟩ := C.ex
  have Fo' : FnOk X.prog X.w X.K X.mg X.base (L2.CX X.prog X.w) k f fd ps (spF B.g ps.length F) := by rw [O.p, O.w, O.k, O.m, O.b]; exact Fo
  refine PE.imp (pe_meth ho (C := Ca) (by rw [O.k]; exact cl) (by rw [O.k]; exact me) Fo' hr (by rw [O.k]; exact hb) .nil (passes_call tk fun _ _ _ _ h => h) ha hst hpl ht) fun σ H Q ⟨L, s, oc, R, e, k⟩ => ?_
  refine fE.bind R e k.ex fun w s1 v H1 L1 e1 R1 r1 g1 => ?_
  split at e1
  · rename_i hcl
    obtain ⟨hcl, hat⟩ := hcl
    obtain ⟨n, fs, rfl, hn⟩ := classOf_some hcl
    obtain ⟨a, hL, rfl⟩ := r1
    have hob := R1.hr.ob n a _ hL hn
    cases hob with
    | @ins C' dx c' vs fs' hc' hH hnm hr' =>
      rw [hc] at hc'
      cases hc'
      refine ⟨a, dx, vs, rfl, hH, ?_, ?_⟩
      · have hat : m ∉ attrO s1.os[n]? := hat
        rw [hn] at hat
        have hat : m ∉ fs.map (·.1) := hat
        rw [← hnm] at hat
        exact lookup_none hat
      · refine fA.bind R1 e1 k.ex fun ws s2 ws' H2 L2 e2 R2 r2 g2 => ?_
        rw [List.append_nil]
        refine run1.kr R2 (.cons (RpW.mono R1.hr g2 (w := .obj n) ⟨a, hL, rfl⟩) r2) e2 ?_
        cases oc with
        | ok w s3 => exact fun v H3 L3 R3 r3 g3 => k v H3 L3 R3 r3 ((g1.trans g2).trans g3)
        | ex x s3 => exact k
  · cases e1
theorem f_meth0 {c m : Str} {o : Expr} {mo : FM W} {apos : Pos} {pl : Sem Bool} {p0 : Str} (O : On X B.g mg base) (C : Met B.g mg base c m k [p0] F) (hr : Room k X.A) (tk : Takes X (fun cls d _ H => B.E cls d H)) (ho : PE X o (fE B mo))
    (ht : eval (.Call (.Attribute o m apos) [] [] pos) X.env = (do
      let ov ← eval o X.env
      standAt apos.atName
      let (f, first) ← holding [ov] (getMethod ov m pl)
      callWith pos f first (backTo pos (starEach [] X.env)) (backToKw pos (keywordEach [] X.env))) := by rfl) :
    PE X (.Call (.Attribute o m apos) [] [] pos) (fE B (mMeth c m 1 F mo mNil)) := by
  obtain ⟨Ca, f, fd, hc, cl, me, hb, Fo⟩ := C.ex
  have Fo' : FnOk X.prog X.w X.K X.mg X.base (L2.CX X.prog X.w) k f fd [p0] (spF B.g 1 F) := by rw [O.p, O.w, O.k, O.m, O.b]; exact Fo
  refine PE.imp (pe_meth0 ho (C := Ca) (by rw [O.k]; exact cl) (by rw [O.k]; exact me) Fo' hr (by rw [O.k]; exact hb) .nil (passes_call tk fun _ _ _ _ h => h) ht) fun σ H Q ⟨L, s, oc, R, e, k⟩ => ?_
  refine fE.bind R e k.ex fun w s1 v H1 L1 e1 R1 r1 g1 => ?_
  split at e1
  · rename_i hcl
    obtain ⟨hcl, hat⟩ := hcl
    obtain ⟨n, fs, rfl, hn⟩ := classOf_some hcl
    obtain ⟨a, hL, rfl⟩ := r1
    have hob := R1.hr.ob n a _ hL hn
    cases hob with
    | @ins C' dx c' vs fs' hc' hH hnm hr' =>
      rw [hc] at hc'
      cases hc'
      refine ⟨a, dx, vs, rfl, hH, ?_, ?_⟩
      · have hat : m ∉ attrO s1.os[n]? := hat
        rw [hn] at hat
        have hat : m ∉ fs.map (·.1) := hat
        rw [← hnm] at hat
        exact lookup_none hat
      · have e1 : run1 1 F [.obj n] s1 = some oc := e1
        refine run1.kr R1 (.cons (show RpW B.g B.Pv L1 s1.os H1 (.ref a) (.obj n) from ⟨a, hL, rfl⟩) .nil) e1 ?_
        cases oc with
        | ok w s3 => exact fun v H3 L3 R3 r3 g3 => k v H3 L3 R3 r3 (g1.trans g3)
        | ex x s3 => exact k
  · cases e1
theorem make.kr {σ : L2.St} {H : Hp} {Q : VK} {L : List Addr} {s : AS} {ws : List W} {vs : List V} {n : Nat} {F : Fn} {o : Oc W} {c : Str} {C : Addr} (hc : B.g.T.cls c = some C) (R : RS B L s σ H) (rv : RpWs B.g B.Pv L s.os H vs ws)
    (e : (match run1 n F (.obj s.os.length :: ws) (newIns c s) with
  | some (.ok (.d .none) s1) => some (Oc.ok (W.obj s.os.length) s1)
  | some (.ex e s1) => some (.ex e s1)
  | _ => none) = some o) (k : KE B o fun w s1 => ∀ v H1 L1, RS B L1 s1 σ H1 → RpW B.g B.Pv L1 s1.os H1 v w → Gr L s.os H L1 s1.os H1 → Q v H1) :
    ∀ x dx, H x = none → H dx = none → dx ≠ x → spF B.g n F (.ref x :: vs) (upd (upd H dx (.own x)) x (.ins C dx [])) (fun v H2 => v = .non ∧ Q (.ref x) H2) B.E := by
  intro x dx nx nd ne
  have sm : Same H (upd (upd H dx (.own x)) x (.ins C dx [])) := fun b u e => by
    rw [upd_ne (ne_of_none e nx), upd_ne (ne_of_none e nd)]
    exact e
  have gp := Gr.push (o := .ins c []) R.hr nx sm
  have hp := R.hr.push (o := .ins c []) nx sm (fun q h => nomatch h) ⟨_, upd_same, fun _ z => nomatch z⟩ (.ins (vs := []) hc upd_same rfl .nil)
  have R2 := R.next (hp fun q z => nomatch z) gp (Cf.push (o := .ins c []))
  rw [List.append_nil] at R2
  have hx : (L ++ [x])[s.os.length]? = some x := get_push.mpr (.inr ⟨R.hr.len.symm, rfl⟩)
  have rv2 : RpWs B.g B.Pv (L ++ [x]) (newIns c s).os (upd (upd H dx (.own x)) x (.ins C dx [])) (.ref x :: vs) (.obj s.os.length :: ws) := .cons (show RpW B.g B.Pv (L ++ [x]) (s.os ++ [.ins c []]) _ (.ref x) (.obj s.os.length) from ⟨x, hx, rfl⟩) (RpWs.mono R.hr gp rv)
  cases h1 : run1 n F (.obj s.os.length :: ws) (newIns c s) with
  | none => rw [h1] at e; cases e
  | some o1 =>
    rw [h1] at e
    refine run1.kr R2 rv2 h1 ?_
    cases o1 with
    | ex x1 s1 => cases e; exact k
    | ok w1 s1 =>
      match w1, e with
      | .d .none, e =>
        cases e
        exact fun v H1 L1 R1 r1 g1 => ⟨by
          have r1 : Rp B.g.P B.g.w B.g.K H1 _ v .none := r1
          cases r1
          rfl, k (.ref x) H1 L1 R1 ⟨x, g1.pre _ _ hx, rfl⟩ (gp.trans g1)⟩
theorem f_make {c : Str} (O : On X B.g mg base) (C : Mak B.g mg base x c k ps F) (hr : Room (k + 1) X.A) (tk : Takes X (fun cls d _ H => B.E cls d H)) (ha : PA X (e :: es) (fA B ms)) (hg : Gl X x)
    (hdb : (x == ("__debug__" : Str)) = false := by decide) (he : starEach (e :: es) X.env = (false, eval e X.env) :: starEach es X.env := by rfl) (hpl : (backTo pos (starEach es X.env)).any (·.1) = false := by rfl) :
    PE X (.Call (.Name x p) (e :: es) [] pos) (fE B (mMake c ps.length F ms)) := by
  obtain ⟨Ca, f, fd, hm, hc, mk, hb, Fo⟩ := C.ex
  have Fo' : FnOk X.prog X.w X.K X.mg X.base (L2.CX X.prog X.w) k f fd ps (spF B.g ps.length F) := by rw [O.p, O.w, O.k, O.m, O.b]; exact Fo
  refine PE.imp (pe_make (by rw [O.k]; exact mk) Fo' hr hg (by rw [O.m]; exact hm) (by rw [O.k]; exact hb) .nil (passes_call tk fun _ _ _ _ h => h) ha hdb he hpl) fun σ H Q ⟨L, s, o, R, e, k⟩ => ?_
  refine fA.bind R e k.ex fun ws s1 vs H1 L1 e1 R1 r1 g1 => ?_
  rw [List.append_nil]
  refine make.kr hc R1 r1 e1 ?_
  cases o with
  | ok w s3 => exact fun v H3 L3 R3 r3 g3 => k v H3 L3 R3 r3 (g1.trans g3)
  | ex x s3 => exact k
theorem f_make0 {c p0 : Str} (O : On X B.g mg base) (C : Mak B.g mg base x c k [p0] F) (hr : Room (k + 1) X.A) (tk : Takes X (fun cls d _ H => B.E cls d H)) (hg : Gl X x)
    (hdb : (x == ("__debug__" : Str)) = false := by decide) : PE X (.Call (.Name x p) [] [] pos) (fE B (mMake c 1 F mNil)) := by
  obtain ⟨Ca, f, fd, hm, hc, mk, hb, Fo⟩ := C.ex
  have Fo' : FnOk X.prog X.w X.K X.mg X.base (L2.CX X.prog X.w) k f fd [p0] (spF B.g 1 F) := by rw [O.p, O.w, O.k, O.m, O.b]; exact Fo
  refine PE.imp (pe_make0 (by rw [O.k]; exact mk) Fo' hr hg (by rw [O.m]; exact hm) (by rw [O.k]; exact hb) .nil (passes_call tk fun _ _ _ _ h => h) hdb) fun σ H Q ⟨L, s, o, R, e, k⟩ => ?_
  exact make.kr hc R .nil e k
end
end FL
namespace FL
open PySem PySem.Spec PyProof.Rows L2
/-! ### a def's body as a function -/
def allNew (n0 : Nat) (es : List Nat) : Bool := es.all fun i => decide (n0 ≤ i)
def fin (n0 : Nat) (w : W) (s : AS) : Rs := match w with
  | .obj n => .ok (.obj n) s.os s.es
  | w => if allNew n0 s.es = true then .ok w (s.os.take n0) [] else .ok w s.os s.es
def finX (n0 : Nat) (e : Ex) (s : AS) : Rs := if allNew n0 s.es = true then .ex e (s.os.take n0) [] else .ex e s.os s.es
def start0 (N : Nat) (ws : List W) (os : List Ob) : AS := ⟨ws.map some ++ List.replicate (N - ws.length) none, os, []⟩
def runF (N : Nat) (mb : FM Fl) : Fn := fun ws os => match mb (start0 N ws os) with
  | some (.ok .nx s) => some (fin os.length (.d .none) s)
  | some (.ok (.rt w) s) => some (fin os.length w s)
  | some (.ex e s) => some (finX os.length e s)
  | _ => none
theorem ConfN.take {m n : Nat} {os : List Ob} (h : ConfN m os) (l : m ≤ n) : ConfN m (os.take n) := fun k o hk e => h k o hk (get_take e).1
theorem RpW.take {g : G} {Pv : Addr → Prop} {L : List Addr} {os : List Ob} {H : Hp} {m : Nat} {v : V} : ∀ {w : W}, (∀ n, w ≠ .obj n) → RpW g Pv L os H v w → RpW g Pv (L.take m) (os.take m) H v w
  | .d x, _, h => Rp.stay (g := g) ⟨fun _ _ q => q, fun _ _ _ q _ => q, fun _ _ _ q _ => q, fun a o _ e n z => n (z.imp_left live_take)⟩ _ _ h
  | .obj n, h, _ => absurd rfl (h n)
  | .exc e, _, h => by
    obtain ⟨a, cls, d, e1, n, q, C, dx, fs, h1, h2, h3, h4, h5⟩ := h
    exact ⟨a, cls, d, e1, fun z => n (z.imp_left live_take), q, C, dx, fs, h1, h2, h3, h4, fun f v q => let ⟨u, q1, q2⟩ := h5 f v q; ⟨u, q1, Rp.stay (g := g) ⟨fun _ _ q => q, fun _ _ _ q _ => q, fun _ _ _ q _ => q, fun a o _ e n z => n (z.imp_left live_take)⟩ _ _ q2⟩⟩
section
variable {B : Bs}
theorem allNew_all {n0 : Nat} {es : List Nat} (h : allNew n0 es = true) : ∀ i ∈ es, n0 ≤ i := fun i hi => of_decide_eq_true (List.all_eq_true.mp h i hi)
theorem Cf.take {os os' : List Ob} {es : List Nat} (c : Cf os os' es) (h : ∀ i ∈ es, os.length ≤ i) : Cf os (os'.take os.length) [] := fun m hm hc _ => (c m hm hc fun i hi => Nat.le_trans hm (h i hi)).take hm
theorem Cf.full {os os' : List Ob} {es : List Nat} (c : Cf os os' es) (h : ∀ i ∈ es, os.length ≤ i) (wf : ∀ (n : Nat) (o : Ob), os[n]? = some o → o.refs (· < os.length)) : ConfN os.length os' := c _ (Nat.le_refl _) (fun n o _ e => wf n o e) h
theorem fin_ok {σ : L2.St} {H : Hp} {L : List Addr} {s : AS} {w : W} {v : V} {Q : VK} (h0 : HR B.g B.Pv B.L B.os B.H) (R : RS B L s σ H) (r : RpW B.g B.Pv L s.os H v w) (k : KR B.g B.Pv B.L B.os B.H Q B.E (fin B.os.length w s)) : Q v H := by
  have tr : (∀ n, w ≠ .obj n) → KR B.g B.Pv B.L B.os B.H Q B.E (if allNew B.os.length s.es = true then .ok w (s.os.take B.os.length) [] else .ok w s.os s.es) → Q v H := fun hw k => by
    split at k
    · rename_i ha
      have hi := allNew_all ha
      exact k v H (L.take B.os.length) (R.hr.take R.gr.len (R.cf.full hi h0.wf)) (Gr.take h0.len R.gr R.gr.len (Nat.le_refl _)) (R.cf.take hi) (r.take hw)
    · exact k v H L R.hr R.gr R.cf r
  cases w with
  | obj n => exact k v H L R.hr R.gr R.cf r
  | d x => exact tr (fun _ z => nomatch z) k
  | exc e => exact tr (fun _ z => nomatch z) k
theorem finX_ok {Q : VK} {e : Ex} {s : AS} (h0 : HR B.g B.Pv B.L B.os B.H) (k : KR B.g B.Pv B.L B.os B.H Q B.E (finX B.os.length e s)) : Xd B e s := fun cls d H' L' h gr c x => by
  unfold finX at k
  split at k
  · rename_i ha
    have hi := allNew_all ha
    refine k cls d H' (L'.take B.os.length) (h.take gr.len (c.full hi h0.wf)) (Gr.take h0.len gr gr.len (Nat.le_refl _)) (c.take hi) ?_
    obtain ⟨C, dx, fs, h1, h2, h3, h4, h5⟩ := x
    exact ⟨C, dx, fs, h1, h2, h3, h4, fun f v q => let ⟨u, q1, q2⟩ := h5 f v q; ⟨u, q1, Rp.stay (g := B.g) ⟨fun _ _ q => q, fun _ _ _ q _ => q, fun _ _ _ q _ => q, fun a o _ e n z => n (z.imp_left live_take)⟩ _ _ q2⟩⟩
  · exact k cls d H' L' h gr c x
end
theorem start_rs {g : G} {Pv : Addr → Prop} {L : List Addr} {os : List Ob} {H : Hp} {E : XK} {vs : List V} {ws : List W} {N : List Str} (h : HR g Pv L os H) (r : RpWs g Pv L os H vs ws) (hl : ws.length ≤ N.length) : RS ⟨g, Pv, L, os, H, E⟩ L (start0 N.length ws os) (start N vs) H := by
  have hlen := Paired.length r
  refine ⟨h, ?_, fun i w e => ?_, .refl, .refl⟩
  · show (ws.map some ++ List.replicate (N.length - ws.length) none).length = (vs.map some ++ List.replicate (N.length - vs.length) none).length
    rw [List.length_append, List.length_append, List.length_map, List.length_map, List.length_replicate, List.length_replicate, hlen]
  · have e : (ws.map some ++ List.replicate (N.length - ws.length) none)[i]? = some (some w) := e
    rw [List.getElem?_append] at e
    split at e
    · rename_i hi
      rw [List.getElem?_map] at e
      cases hw : ws[i]? with
      | none => rw [hw] at e; cases e
      | some u =>
        rw [hw] at e
        cases e
        have key : ∀ {vs : List V} {ws : List W} {i : Nat} {w : W}, RpWs g Pv L os H vs ws → ws[i]? = some w → ∃ v, vs[i]? = some v ∧ RpW g Pv L os H v w := by
          intro vs ws i w r
          induction r generalizing i with
          | nil => intro e; simp at e
          | cons a t ih =>
            intro e
            cases i with
            | zero => simp at e; subst e; exact ⟨_, by simp, a⟩
            | succ j =>
              obtain ⟨v, h1, h2⟩ := ih (by simpa using e)
              exact ⟨v, by simpa using h1, h2⟩
        obtain ⟨v, h1, h2⟩ := key r hw
        refine ⟨v, ?_, h2⟩
        show (vs.map some ++ List.replicate (N.length - vs.length) none)[i]? = some (some v)
        rw [List.getElem?_append_left (by rw [List.length_map]; exact (List.getElem?_eq_some_iff.mp h1).1), List.getElem?_map, h1]
        rfl
    · rw [List.getElem?_replicate] at e
      split at e <;> cases e
/-- a def whose body is told by a function is told by it -/
theorem def_ok {g : G} {mg : Str → Option Value} {base : Heap} {x qual : Str} {st : Stmt} {f : Addr} {fd : FuncData} {N ps : List Str} {k : Nat} {mb : FM Fl} (F : Fun g.K x qual st f fd) (S : FnScope N ps (defScope st)) (hl : ps.length ≤ N.length)
    (hb : ∀ (cdv : Value) (A : Around) (outer : List Env) (s : Shared) (H : Hp) (E : XK) (B : Bs), B.g = g → B.E = E → Room k (A.deeper (envOfC qual (defScope st) s.heap.objs.size f cdv)) →
      PSs (cxOf (L2.CX g.P g.w) g.P g.w g.K mg base N qual (defScope st) f cdv A outer s H E) (defBody st) (fS B mb)) :
    FnOk g.P g.w g.K mg base (L2.CX g.P g.w) (k + 1) f fd ps (spF g ps.length (runF N.length mb)) := by
  refine F.okX S (fun vs H Q E h => spF.len vs H Q E h) (fun cdv A outer s H vs Q E hr h => ?_)
  obtain ⟨Pv, L, os, ws, r, hlen, hh, hv, e, k⟩ := h
  refine ⟨_, hb cdv A outer s H E ⟨g, Pv, L, os, H, E⟩ rfl rfl hr, ?_⟩
  have R0 := start_rs (E := E) (N := N) hh hv (by omega)
  unfold runF at e
  split at e
  · rename_i s1 h1
    cases e
    exact ⟨L, _, _, R0, h1, fun σ1 H1 L1 R1 _ => fin_ok (B := ⟨g, Pv, L, os, H, E⟩) hh R1 (w := .d .none) .non k⟩
  · rename_i w s1 h1
    cases e
    exact ⟨L, _, _, R0, h1, fun σ1 H1 L1 R1 _ v rv => fin_ok (B := ⟨g, Pv, L, os, H, E⟩) hh R1 rv k⟩
  · rename_i x s1 h1
    cases e
    exact ⟨L, _, _, R0, h1, finX_ok (B := ⟨g, Pv, L, os, H, E⟩) hh k⟩
  · cases e
end FL
namespace FL
open PySem PySem.Spec PyProof.Rows L2
/-! ### what is walked -/
/-- J gives the items ws, however the state goes on -/
structure Sv (B : Bs) (J : It) (L : List Addr) (os : List Ob) (H : Hp) (ws : List W) : Prop where
  stop : ∀ Pv' L' os' H', (∀ a, Pv' a → B.Pv a ∨ H a = none) → HR B.g Pv' L' os' H' → Gr L os H L' os' H' → J.stop ws.length H'
  go : ∀ (i : Nat) w Pv' L' os' H', ws[i]? = some w → (∀ a, Pv' a → B.Pv a ∨ H a = none) → HR B.g Pv' L' os' H' → Gr L os H L' os' H' → J.go i H'
  yld : ∀ (i : Nat) w Pv' L' os' H' x H'', ws[i]? = some w → (∀ a, Pv' a → B.Pv a ∨ H a = none) → HR B.g Pv' L' os' H' → Gr L os H L' os' H' → J.yld i H' x H'' → Same H' H'' ∧ RpW B.g Pv' L' os' H'' x w
theorem Gr.stay' {g : G} {Pv Pv' : Addr → Prop} {L L' : List Addr} {os os' : List Ob} {H H' : Hp} (R : HR g Pv L os H) (r : Gr L os H L' os' H') (hp : ∀ a, Pv' a → Pv a ∨ H a = none) : Stay g (fun a => live L os a ∨ Pv a) (fun a => live L' os' a ∨ Pv' a) H H' :=
  ⟨(r.stay R).sq, (r.stay R).rd, (r.stay R).dn, fun a o t e n z => by
    rcases z with z | z
    · exact (r.keep a o t e fun q => n (.inl q)).2 z
    · rcases hp a z with q | q
      · exact n (.inr q)
      · rw [q] at e; cases e⟩
theorem RpW.mono' {g : G} {Pv Pv' : Addr → Prop} {L L' : List Addr} {os os' : List Ob} {H H' : Hp} (R : HR g Pv L os H) (r : Gr L os H L' os' H') (hp : ∀ a, Pv' a → Pv a ∨ H a = none) {v : V} : ∀ {w : W}, RpW g Pv L os H v w → RpW g Pv' L' os' H' v w
  | .d _, h => Rp.stay (r.stay' R hp) _ _ h
  | .obj _, ⟨a, h, e⟩ => ⟨a, r.pre _ _ h, e⟩
  | .exc _, h => by
    obtain ⟨a, cls, d, e, n, h, C, dx, fs, h1, h2, h3, h4, h5⟩ := h
    exact ⟨a, cls, d, e, (fun z => z.elim (r.keep _ _ nt_ext h fun q => n (.inl q)).2 fun q => (hp a q).elim (fun q => n (.inr q)) fun q => by rw [q] at h; cases h), r.kn _ _ nt_ext h (fun q => n (.inl q)), C, dx, fs, h1, h2, h3, r.kn _ _ nt_xd h4 (R.xd h4), fun f v q => let ⟨u, q1, q2⟩ := h5 f v q; ⟨u, q1, Rp.stay (r.stay' R hp) _ _ q2⟩⟩
def fI (B : Bs) (m : FM (List W)) : TI := fun σ H R => ∃ L s o, RS B L s σ H ∧ m s = some o ∧ KE B o fun ws s1 => ∀ J H1 L1, RS B L1 s1 σ H1 → Gr L s.os H L1 s1.os H1 → Sv B J L1 s1.os H1 ws → R J H1
theorem PI.imp {X : Cx} {tg e : Expr} {t t' : TI} (h : PI X tg e t) (k : ∀ σ H R, t' σ H R → t σ H R) : PI X tg e t' := ⟨fun pins s σ H R I q => h.run pins s σ H R I (k _ _ _ q)⟩
/-- a list, a tuple or a text, as it is found -/
def iSeq (K : PySem.W.Frag) (te : TE) : TI := fun σ H R => te σ H fun x H1 => (∃ a, x = .ref a ∧ (∃ xs, SqL K H1 a xs) ∧ R (Itl K a) H1) ∨ (∃ a, x = .ref a ∧ (∃ xs, SqT K H1 a xs) ∧ R (Itt K a) H1) ∨ ∃ z, x = .str z ∧ R (Its z) H1
theorem pi_seq {X : Cx} {tg l : Expr} {tl : TE} (hl : PE X l tl) : PI X tg l (iSeq X.K tl) := by
  refine ⟨fun pins s σ H R I h => ?_⟩
  refine thn (hl.run pins s σ H _ I h) fun v s1 ⟨x, H1, I1, r1, q1⟩ => ?_
  rcases q1 with ⟨a, rfl, ⟨xs, hq⟩, q⟩ | ⟨a, rfl, ⟨xs, hq⟩, q⟩ | ⟨z, rfl, q⟩
  · cases r1
    obtain ⟨its, rv, p, hz⟩ := I1.list hq
    refine wpAny_pyIter_list p.isList ?_
    refine ⟨s1.heap.objs.size, [s1.heap.objs.size], _, _, H1, rfl, I1.kept (t' := s1.toks) fun b o e => Heap.get?_push_of_some _ e, turn_list a _, ⟨_, Heap.get?_push_size _ rfl, rfl, rfl⟩, fun b hb => ?_, q⟩
    have e : b = s1.heap.objs.size := by simpa using hb
    subst e
    exact I1.fpOk (Nat.le_refl _) (I1.hok.fresh (Nat.le_refl _))
  · cases r1
    obtain ⟨its, rv, p, hz⟩ := I1.tuple hq
    refine wpAny_pyIter_tuple (show s1.heap.IsTuple a its.toArray from p) ?_
    refine ⟨s1.heap.objs.size, [s1.heap.objs.size], _, _, H1, rfl, I1.kept (t' := s1.toks) fun b o e => Heap.get?_push_of_some _ e, turn_tuple a _, ⟨_, Heap.get?_push_size _ rfl, rfl, rfl⟩, fun b hb => ?_, q⟩
    have e : b = s1.heap.objs.size := by simpa using hb
    subst e
    exact I1.fpOk (Nat.le_refl _) (I1.hok.fresh (Nat.le_refl _))
  · obtain ⟨t, rfl⟩ := r1
    cases ha : z.cps.all (· < 128)
    · exact wpAny_pyIter_wide ha (pi_one (tk := s1.toks) I1 _ (turn_str _ z t "str_iterator" (.inr rfl)) ⟨_, Heap.get?_push_size _ rfl, rfl, rfl⟩ q)
    · exact wpAny_pyIter_ascii ha (pi_one (tk := s1.toks) I1 _ (turn_str _ z t "str_ascii_iterator" (.inl rfl)) ⟨_, Heap.get?_push_size _ rfl, rfl, rfl⟩ q)
def signs (z : Str) : List PyData := z.cps.toList.map fun c => .str ⟨#[c]⟩
/-- the items of a value that is no object -/
def seqD : PyData → Option (List PyData)
  | .list xs => some xs
  | .tuple xs => some xs
  | .str z => some (signs z)
  | _ => none
def seqW : W → Option (List W)
  | .d x => (seqD x).map fun xs => xs.map .d
  | _ => none
def mIt (m : FM W) : FM (List W) := m.bind fun w s => match seqW w with
  | some ws => some (.ok ws s)
  | none => none
theorem RpAll.at_ {P : Program} {w : World} {K : PySem.W.Frag} {H : Hp} {A : Addr → Prop} : ∀ {vs : List V} {xs : List PyData} {i : Nat} {x : PyData} {v : V}, RpAll P w K H A vs xs → xs[i]? = some x → vs[i]? = some v → Rp P w K H A v x
  | _, _, i, _, _, .nil, e, _ => by simp at e
  | _, _, 0, _, _, .cons r _, e, e' => by simp at e e'; subst e; subst e'; exact r
  | _, _, i + 1, _, _, .cons _ t, e, e' => RpAll.at_ (i := i) t (by simpa using e) (by simpa using e')
theorem RpAll.get {P : Program} {w : World} {K : PySem.W.Frag} {H : Hp} {A : Addr → Prop} : ∀ {vs : List V} {xs : List PyData} {i : Nat} {x : PyData}, RpAll P w K H A vs xs → xs[i]? = some x → ∃ v, vs[i]? = some v ∧ Rp P w K H A v x
  | _, _, i, _, .nil, e => by simp at e
  | _, _, 0, _, .cons r _, e => by simp at e; subst e; exact ⟨_, by simp, r⟩
  | _, _, i + 1, _, .cons _ t, e => by
    obtain ⟨v, h1, h2⟩ := RpAll.get (i := i) t (by simpa using e)
    exact ⟨v, by simpa using h1, h2⟩
section
variable {B : Bs} {L : List Addr} {os : List Ob} {H : Hp}
theorem sv_tup {a : Addr} {vs : List V} {xs : List PyData} (R : HR B.g B.Pv L os H) (h : SqT B.g.K H a vs) (r : RpAll B.g.P B.g.w B.g.K H (fun a => live L os a ∨ B.Pv a) vs xs) : Sv B (Itt B.g.K a) L os H (xs.map .d) := by
  have hs : ∀ {L' os' H'}, Gr L os H L' os' H' → SqT B.g.K H' a vs := fun gr => SqT.keep R gr.kn h
  refine ⟨fun Pv' L' os' H' hp R' gr => ⟨vs, hs gr, by rw [List.length_map, r.length]; exact Nat.le_refl _⟩, fun i w Pv' L' os' H' e hp R' gr => ?_, fun i w Pv' L' os' H' x H'' e hp R' gr y => ?_⟩
  · rw [List.getElem?_map] at e
    cases q : xs[i]? with
    | none => rw [q] at e; cases e
    | some u =>
      obtain ⟨v, h1, h2⟩ := r.get q
      exact ⟨vs, v, hs gr, h1⟩
  · obtain ⟨rfl, y⟩ := y
    have hv := y vs (hs gr)
    rw [List.getElem?_map] at e
    cases q : xs[i]? with
    | none => rw [q] at e; cases e
    | some u =>
      rw [q] at e
      cases e
      exact ⟨Same.refl _, RpW.mono' (w := .d u) R gr hp (r.at_ q hv)⟩
theorem sv_lst {a : Addr} {vs : List V} {xs : List PyData} (R : HR B.g B.Pv L os H) (h : Rd H a (.lst vs)) (n : ¬ live L os a) (r : RpAll B.g.P B.g.w B.g.K H (fun a => live L os a ∨ B.Pv a) vs xs) : Sv B (Itl B.g.K a) L os H (xs.map .d) := by
  have hs : ∀ {L' os' H'}, Gr L os H L' os' H' → SqL B.g.K H' a vs := fun gr => .inl (Rd.keep gr.kn nt_lst n h)
  refine ⟨fun Pv' L' os' H' hp R' gr => ⟨vs, hs gr, by rw [List.length_map, r.length]; exact Nat.le_refl _⟩, fun i w Pv' L' os' H' e hp R' gr => ?_, fun i w Pv' L' os' H' x H'' e hp R' gr y => ?_⟩
  · rw [List.getElem?_map] at e
    cases q : xs[i]? with
    | none => rw [q] at e; cases e
    | some u =>
      obtain ⟨v, h1, h2⟩ := r.get q
      exact ⟨vs, v, hs gr, h1⟩
  · obtain ⟨rfl, y⟩ := y
    have hv := y vs (hs gr)
    rw [List.getElem?_map] at e
    cases q : xs[i]? with
    | none => rw [q] at e; cases e
    | some u =>
      rw [q] at e
      cases e
      exact ⟨Same.refl _, RpW.mono' (w := .d u) R gr hp (r.at_ q hv)⟩
theorem sv_str {z : Str} : Sv B (Its z) L os H ((signs z).map .d) := by
  have hl : ((signs z).map W.d).length = z.cps.size := by rw [List.length_map, signs, List.length_map, Array.length_toList]
  refine ⟨fun Pv' L' os' H' hp R' gr => by rw [hl]; exact Nat.le_refl _, fun i w Pv' L' os' H' e hp R' gr => ?_, fun i w Pv' L' os' H' x H'' e hp R' gr y => ?_⟩
  · show i < z.cps.size
    rw [← hl]
    exact (List.getElem?_eq_some_iff.mp e).1
  · obtain ⟨rfl, c, h1, rfl⟩ := y
    refine ⟨Same.refl _, ?_⟩
    rw [List.getElem?_map, signs, List.getElem?_map, Array.getElem?_toList, h1] at e
    cases e
    exact Rp.str _
end
section
variable {X : Cx} {B : Bs} {tg l : Expr} {m : FM W}
theorem fi_seq (hK : X.K = B.g.K) (h : PE X l (fE B m)) : PI X tg l (fI B (mIt m)) :=
  PI.imp (pi_seq h) fun σ H R ⟨L, s, o, RR, e, k⟩ => by
    refine fE.bind RR e k.ex fun w s1 v H1 L1 e1 R1 r1 g1 => ?_
    split at e1
    · rename_i ws hw
      cases e1
      cases w with
      | obj n => cases hw
      | exc x => cases hw
      | d x =>
        have r : Rp B.g.P B.g.w B.g.K H1 _ v x := r1
        cases r with
        | non => cases hw
        | bl => cases hw
        | int => cases hw
        | dct => cases hw
        | str z => cases hw; exact .inr (.inr ⟨_, rfl, k _ H1 L1 R1 g1 sv_str⟩)
        | tup hs ra => cases hw; exact .inr (.inl ⟨_, rfl, ⟨_, hK ▸ hs⟩, k _ H1 L1 R1 g1 (by rw [hK]; exact sv_tup R1.hr hs ra)⟩)
        | lst hs n ra => cases hw; exact .inl ⟨_, rfl, ⟨_, .inl hs⟩, k _ H1 L1 R1 g1 (by rw [hK]; exact sv_lst R1.hr hs (fun z => n (.inl z)) ra)⟩
    · cases e1
end
/-! ### range -/
def rng (lo : Int) (n : Nat) : List PyData := (List.range n).map fun (i : Nat) => .int (lo + i)
def rng1 : List W → Option (List PyData)
  | [.d (.int j)] => if -(2 ^ 62) ≤ j ∧ j < 2 ^ 62 then some (rng 0 j.toNat) else none
  | _ => none
def rng2 : List W → Option (List PyData)
  | [.d (.int i), .d (.int j)] => if -(2 ^ 62) ≤ i ∧ i < 2 ^ 62 ∧ -(2 ^ 62) ≤ j ∧ j < 2 ^ 62 then some (rng i (j - i).toNat) else none
  | _ => none
def mRng (f : List W → Option (List PyData)) (ms : FM (List W)) : FM (List W) := ms.bind fun ws s => match f ws with
  | some xs => some (.ok (xs.map .d) s)
  | none => none
theorem sv_rng {B : Bs} {L : List Addr} {os : List Ob} {H : Hp} {lo : Int} {n : Nat} : Sv B (Itr lo n) L os H ((rng lo n).map .d) := by
  have hl : ((rng lo n).map W.d).length = n := by rw [List.length_map, rng, List.length_map, List.length_range]
  refine ⟨fun Pv' L' os' H' hp R' gr => by rw [hl]; exact Nat.le_refl _, fun i w Pv' L' os' H' e hp R' gr => ?_, fun i w Pv' L' os' H' x H'' e hp R' gr y => ?_⟩
  · show i < n
    rw [← hl]
    exact (List.getElem?_eq_some_iff.mp e).1
  · obtain ⟨rfl, rfl⟩ := y
    refine ⟨Same.refl _, ?_⟩
    have hi : i < n := by rw [← hl]; exact (List.getElem?_eq_some_iff.mp e).1
    rw [List.getElem?_map, rng, List.getElem?_map, List.getElem?_range hi] at e
    cases e
    exact Rp.int _
theorem rpW_int {g : G} {Pv : Addr → Prop} {L : List Addr} {os : List Ob} {H : Hp} {v : V} {i : Int} (r : RpW g Pv L os H v (.d (.int i))) : v = .int i := by
  have r : Rp g.P g.w g.K H _ v (.int i) := r
  cases r
  rfl
section
variable {X : Cx} {B : Bs} {tg a b : Expr} {ms : FM (List W)} {p pos : Pos}
theorem fi_rng1 (hg : Gl X "range") (hm : X.mg "range" = none) (ha : PA X [a] (fA B ms)) (hs : starEach [a] X.env = [(false, eval a X.env)] := by rfl) : PI X tg (.Call (.Name "range" p) [a] [] pos) (fI B (mRng rng1 ms)) :=
  PI.imp (pi_range1 hg hm ha hs) fun σ H R ⟨L, s, o, RR, e, k⟩ => by
    refine fA.bind RR e k.ex fun ws s1 vs H1 L1 e1 R1 r1 g1 => ?_
    split at e1
    · rename_i xs hx
      cases e1
      unfold rng1 at hx
      split at hx
      · split at hx
        · rename_i hb
          cases hx
          cases r1 with
          | cons r1 rr =>
            cases rr
            have := rpW_int r1
            subst this
            exact ⟨_, rfl, hb.1, hb.2, k _ H1 L1 R1 g1 sv_rng⟩
        · cases hx
      · cases hx
    · cases e1
theorem fi_rng2 (hg : Gl X "range") (hm : X.mg "range" = none) (ha : PA X [a, b] (fA B ms)) (hs : starEach [a, b] X.env = [(false, eval a X.env), (false, eval b X.env)] := by rfl) (hs2 : starEach [b] X.env = [(false, eval b X.env)] := by rfl) : PI X tg (.Call (.Name "range" p) [a, b] [] pos) (fI B (mRng rng2 ms)) :=
  PI.imp (pi_range2 hg hm ha hs hs2) fun σ H R ⟨L, s, o, RR, e, k⟩ => by
    refine fA.bind RR e k.ex fun ws s1 vs H1 L1 e1 R1 r1 g1 => ?_
    split at e1
    · rename_i xs hx
      cases e1
      unfold rng2 at hx
      split at hx
      · split at hx
        · rename_i hb
          cases hx
          cases r1 with
          | cons r1 rr =>
            cases rr with
            | cons r2 rr =>
              cases rr
              have := rpW_int r1
              subst this
              have := rpW_int r2
              subst this
              exact ⟨_, _, rfl, hb, k _ H1 L1 R1 g1 sv_rng⟩
        · cases hx
      · cases hx
    · cases e1
end

/-! ### targets -/
def gTupF (n : Nat) (t : List W → FM Unit) : FG := fun w s => match w with
  | .d (.tuple xs) => if xs.length = n then t (xs.map .d) s else none
  | _ => none
def gNilF : List W → FM Unit := fun ws s => match ws with
  | [] => some (.ok () s)
  | _ => none
def gConsF (t : FG) (u : List W → FM Unit) : List W → FM Unit := fun ws s => match ws with
  | [] => none
  | w :: r => ((t w).bind fun _ => u r) s
section
variable {X : Cx} {B : Bs} {pos : Pos}
theorem fg_nil : PGs X [] (fGs B gNilF) := PGs.imp pgs_nil fun vs σ H Q ⟨L, s, ws, o, R, r, e, k⟩ => by
  cases r with
  | nil => cases e; exact ⟨rfl, k σ H L R .refl⟩
  | cons _ _ => cases e
theorem fg_cons {e : Expr} {es : List Expr} {t : FG} {u : List W → FM Unit} (h1 : PG X e (fG B t)) (h2 : PGs X es (fGs B u)) (hs : (assignEach (e :: es) X.env).map (·.2) = assign e X.env :: (assignEach es X.env).map (·.2) := by rfl) : PGs X (e :: es) (fGs B (gConsF t u)) :=
  PGs.imp (pgs_cons h1 h2 hs) fun vs σ H Q ⟨L, s, ws, o, R, r, e, k⟩ => by
    cases r with
    | nil => cases e
    | @cons v w vs ws r rr =>
      have e : ((t w).bind fun _ => u ws) s = some o := e
      refine ⟨v, vs, rfl, ?_⟩
      rcases bind_some e with ⟨_, s1, e1, e2⟩ | ⟨x, s1, e1, rfl⟩
      · refine ⟨L, s, w, _, R, r, e1, fun σ1 H1 L1 R1 g1 => ⟨L1, s1, ws, o, R1, RpWs.mono R.hr g1 rr, e2, ?_⟩⟩
        cases o with
        | ok q s2 => exact fun σ2 H2 L2 R2 g2 => k σ2 H2 L2 R2 (g1.trans g2)
        | ex q s2 => exact k
      · exact ⟨L, s, w, _, R, r, e1, k⟩
theorem fg_tup {es : List Expr} {kk : Nat} {t : List W → FM Unit} {n : Nat} (hK : X.K = B.g.K) (hc : X.calm = true) (h : PGs X es (fGs B t))
    (hn : (assignEach es X.env).length = n := by rfl) (hst : (assignEach es X.env).findIdx? (·.1) = none := by rfl) : PG X (.Tuple es kk pos) (fG B (gTupF n t)) :=
  PG.imp (pg_tup hc h hn hst) fun v σ H Q ⟨L, s, w, o, R, r, e, k⟩ => by
    unfold gTupF at e
    split at e
    · rename_i xs
      split at e
      · rename_i hl
        have r : Rp B.g.P B.g.w B.g.K H _ v (.tuple xs) := r
        cases r with
        | tup hs ra => exact ⟨_, _, rfl, hK ▸ hs, by rw [ra.length]; exact hl, L, s, _, o, R, ra.ws, e, k⟩
      · cases e
    · cases e
end
/-! ### for -/
def forL (t : FG) (b : FM Fl) : List W → FM Fl
  | [] => FM.pure .nx
  | w :: ws => (t w).bind fun _ => b.bind fun f => match f with
    | .nx => forL t b ws
    | .ct => forL t b ws
    | .bk => FM.pure .nx
    | .rt w => FM.pure (.rt w)
def mFor (mi : FM (List W)) (t : FG) (b : FM Fl) : FM Fl := mi.bind (forL t b)
theorem fs_for {X : Cx} {B : Bs} {tg iter : Expr} {body : List Stmt} {mi : FM (List W)} {t : FG} {b : FM Fl} {pos : Pos} (hp : PassesOwn (model X.prog X.w) X.A X.env X.xe) (hc : X.calm = true) (hi : PI X tg iter (fI B mi)) (hg : PG X tg (fG B t)) (hb : PSs X body (fS B b))
    (hs : ∀ x, foldedSetIterable iter X.env x = pure x := by intro _; rfl) : PS X (.For tg iter body [] pos) (fS B (mFor mi t b)) :=
  PS.imp (ps_for hp hc hi hg hb hs) fun D σ H ⟨L, s, o, R, e, k⟩ => by
    rcases bind_some e with ⟨ws, s0, e0, e1⟩ | ⟨x, s1, e1, rfl⟩
    · refine ⟨L, s, _, R, e0, fun J H1 L1 R1 g1 sv => ?_⟩
      refine ⟨fun i m σ H' => ∃ L2 s2, RS B L2 s2 σ H' ∧ Gr L1 s0.os H1 L2 s2.os H' ∧ forL t b (ws.drop i) s2 = some o ∧ m = ws.length - i ∧ i ≤ ws.length, ⟨_, L1, s0, R1, .refl, e1, rfl, Nat.zero_le _⟩, fun i m σ H' ⟨L2, s2, R2, g2, e2, hm, hi⟩ => ?_⟩
      by_cases hlt : i < ws.length
      · have hd : ws.drop i = ws[i] :: ws.drop (i + 1) := List.drop_eq_getElem_cons hlt
        have hg : ws[i]? = some ws[i] := List.getElem?_eq_getElem hlt
        rw [hd] at e2
        refine .inr ⟨sv.go i _ B.Pv L2 s2.os H' hg (fun _ => .inl) R2.hr g2, fun σ' H'' => ∃ L3 s3, RS B L3 s3 σ' H'' ∧ Gr L1 s0.os H1 L3 s3.os H'' ∧ forL t b (ws.drop (i + 1)) s3 = some o, fun σ' H'' ⟨L3, s3, R3, g3, e3⟩ => ⟨_, by omega, L3, s3, R3, g3, e3, rfl, hlt⟩, fun x H'' hy => ?_⟩
        obtain ⟨sm, rx⟩ := sv.yld i _ B.Pv L2 s2.os H' x H'' hg (fun _ => .inl) R2.hr g2 hy
        have R3 := R2.same sm
        have g3 := g2.trans (.same sm)
        rcases bind_some e2 with ⟨_, s3, e3, e4⟩ | ⟨q, s3, e3, rfl⟩
        · refine ⟨L2, s2, _, _, R3, rx, e3, fun σ4 H4 L4 R4 g4 => ?_⟩
          rcases bind_some e4 with ⟨f, s5, e5, e6⟩ | ⟨q, s5, e5, rfl⟩
          · refine ⟨L4, s3, _, R4, e5, fun σ5 H5 L5 R5 g5 => ?_⟩
            have g6 := (g3.trans g4).trans g5
            cases f with
            | nx => exact ⟨L5, s5, R5, g6, e6⟩
            | ct => exact ⟨L5, s5, R5, g6, e6⟩
            | bk => cases e6; exact k σ5 H5 L5 R5 (g1.trans g6)
            | rt w => cases e6; exact k σ5 H5 L5 R5 (g1.trans g6)
          · exact ⟨L4, s3, _, R4, e5, k⟩
        · exact ⟨L2, s2, _, _, R3, rx, e3, k⟩
      · have he : i = ws.length := by omega
        subst he
        rw [List.drop_length] at e2
        cases e2
        exact .inl ⟨sv.stop B.Pv L2 s2.os H' (fun _ => .inl) R2.hr g2, k σ H' L2 R2 (g1.trans g2)⟩
    · exact ⟨L, s, _, R, e1, k⟩
end FL
namespace FL
open PySem PySem.Spec PyProof.Rows L2
/-! ### something set apart: the list that a comprehension makes -/
def Bs.inC (B : Bs) (D : Addr) : Bs := { B with Pv := fun a => a = D ∨ B.Pv a, E := fun _ _ _ => False }
/-- what may stand at D -/
def Box : HO → Prop
  | .lst _ => True
  | .dK _ => True
  | .ext _ => True
  | _ => False
theorem box_nt {o : HO} (h : Box o) : NT o := fun ps e => by subst e; exact h
/-- nothing but a table may stand there -/
def BN (H : Hp) (D : Addr) : Prop := ∀ o, H D = some o → ¬ NT o
/-- only what stands at D is new, and no value has it -/
structure AtD (Pv Pv' : Addr → Prop) (H H' : Hp) (D : Addr) : Prop where
  k : ∀ a, a ≠ D → H' a = H a
  d : H D = none ∨ (Pv D ∧ ∃ o, H D = some o ∧ Box o)
  p : ∀ a, a ≠ D → Pv' a → Pv a
section
variable {g : G} {Pv Pv' : Addr → Prop} {L : List Addr} {os : List Ob} {H H' : Hp} {D : Addr}
theorem AtD.ne {a : Addr} {o : HO} (h : AtD Pv Pv' H H' D) (e : H a = some o) (n : ¬ (live L os a ∨ Pv a)) : a ≠ D := fun z => by
  subst z
  rcases h.d with q | ⟨q, _⟩
  · rw [q] at e; cases e
  · exact n (.inr q)
theorem AtD.ne2 {a : Addr} {o : HO} (h : AtD Pv Pv' H H' D) (e : H a = some o) (n : ¬ Box o) : a ≠ D := fun z => by
  subst z
  rcases h.d with q | ⟨_, xs, q, b⟩
  · rw [q] at e; cases e
  · rw [q] at e; cases e; exact n b
theorem AtD.stay (h : AtD Pv Pv' H H' D) : Stay g (fun a => live L os a ∨ Pv a) (fun a => live L os a ∨ Pv' a) H H' := by
  refine ⟨fun a vs q => ?_, fun a u _ q n => ?_, fun a kv vv q n => ?_, fun a o _ e n z => ?_⟩
  · rcases q with (q | ⟨o, q⟩) | q
    · exact .inl (.inl (by rw [h.k a (h.ne2 q fun z => z)]; exact q))
    · exact .inl (.inr ⟨o, by rw [h.k a (h.ne2 q fun z => z)]; exact q⟩)
    · exact .inr q
  · rcases q with q | ⟨o, q⟩
    · exact .inl (by rw [h.k a (h.ne q n)]; exact q)
    · exact .inr ⟨o, by rw [h.k a (h.ne q n)]; exact q⟩
  · cases q with
    | dK q =>
      rcases q with q | ⟨o, q⟩
      · exact .dK (.inl (by rw [h.k a (h.ne q n)]; exact q))
      · exact .dK (.inr ⟨o, by rw [h.k a (h.ne q n)]; exact q⟩)
  · have := h.ne e n
    rcases z with z | z
    · exact n (.inl z)
    · exact n (.inr (h.p a this z))
theorem RpW.atD (h : AtD Pv Pv' H H' D) {v : V} : ∀ {w : W}, RpW g Pv L os H v w → RpW g Pv' L os H' v w
  | .d _, r => Rp.stay (h.stay (L := L) (os := os)) _ _ r
  | .obj _, r => r
  | .exc _, r => by
    obtain ⟨a, cls, d, e1, n, q, C, dx, fs, h1, h2, h3, h4, h5⟩ := r
    exact ⟨a, cls, d, e1, (fun z => z.elim (fun q => n (.inl q)) fun z => n (.inr (h.p a (h.ne q n) z))), by rw [h.k a (h.ne q n)]; exact q, C, dx, fs, h1, h2, h3, by rw [h.k dx (h.ne2 h4 fun z => z)]; exact h4, fun f v q => let ⟨u, q1, q2⟩ := h5 f v q; ⟨u, q1, Rp.stay (h.stay (L := L) (os := os)) _ _ q2⟩⟩
theorem RpWs.atD (h : AtD Pv Pv' H H' D) {vs : List V} {ws : List W} (r : RpWs g Pv L os H vs ws) : RpWs g Pv' L os H' vs ws := Paired.mapP r fun _ _ q => RpW.atD h q
theorem RpAll.atD (h : AtD Pv Pv' H H' D) {vs : List V} {xs : List PyData} (r : RpAll g.P g.w g.K H (fun a => live L os a ∨ Pv a) vs xs) : RpAll g.P g.w g.K H' (fun a => live L os a ∨ Pv' a) vs xs := RpAll.stay (h.stay (L := L) (os := os)) _ _ r
theorem ObR.atD (h : AtD Pv Pv' H H' D) {a : Addr} {o : Ob} (hne : o ≠ .dead → a ≠ D) (r : ObR g Pv L os H a o) : ObR g Pv' L os H' a o := by
  cases r with
  | dead => exact .dead
  | lst q r => exact .lst (by rw [h.k a (hne fun z => nomatch z)]; exact q) (r.atD h)
  | dK q k r => exact .dK (by rw [h.k a (hne fun z => nomatch z)]; exact q) (k.atD h) (r.atD h)
  | dN q k n r => exact .dN (by rw [h.k a (hne fun z => nomatch z)]; exact q) (k.atD h) n (r.atD h)
  | ins c q n r => exact .ins c (by rw [h.k a (hne fun z => nomatch z)]; exact q) n (r.atD h)
  | tab ea q t k =>
    refine .tab ea (by rw [h.k a (hne fun z => nomatch z)]; exact q) t fun p cv z => ?_
    obtain ⟨c, z1, z2, z3⟩ := k p cv z
    have ne : c ≠ D := fun y => by
      rw [y] at z2 z3
      rcases h.d with q | ⟨q, _⟩
      · rw [q] at z2; cases z2
      · exact z3 q
    exact ⟨c, z1, by rw [h.k c ne]; exact z2, fun y => z3 (h.p c ne y)⟩
theorem HR.atD (R : HR g Pv L os H) (h : AtD Pv Pv' H H' D) (hs : Df H' D) (hp : ∀ a, Pv' a → a = D ∨ Pv a) : HR g Pv' L os H' := by
  have hL : D ∉ L := by
    rcases h.d with q | ⟨q, _⟩
    · intro m
      obtain ⟨n, hn⟩ := List.mem_iff_getElem?.mp m
      exact R.dfn n D hn q
    · exact (R.pv D q).2
  refine ⟨R.len, R.inj, fun n a e => ?_, fun n a o e1 e2 => ?_, R.wf, fun a p => ?_, R.tb⟩
  · have : a ≠ D := fun z => hL (z ▸ List.mem_of_getElem? e)
    rw [h.k a this]
    exact R.dfd n a e
  · have : a ≠ D := fun z => hL (z ▸ List.mem_of_getElem? e1)
    exact (R.ob n a o e1 e2).atD h fun _ => this
  · rcases hp a p with rfl | p
    · exact ⟨hs, hL⟩
    · by_cases e : a = D
      · subst e; exact ⟨hs, hL⟩
      · have := R.pv a p
        exact ⟨this.1.same fun o q => by rw [h.k a e]; exact q, this.2⟩
end
section
variable {B : Bs} {L : List Addr} {s : AS} {σ : L2.St} {H : Hp} {D : Addr} {o : HO}
/-- into a comprehension -/
theorem RS.into (R : RS B L s σ H) (hD : H D = none) (tn : NT o) : RS (B.inC D) L s σ (upd H D o) := by
  have h : AtD B.Pv (B.inC D).Pv H (upd H D o) D := ⟨fun a n => upd_ne n, .inl hD, fun a n p => p.elim (fun z => absurd z n) id⟩
  refine ⟨R.hr.atD h ⟨_, upd_same, tn⟩ fun a p => p, R.len, fun i w e => let ⟨v, e1, r⟩ := R.sl i w e; ⟨v, e1, RpW.atD h r⟩, R.gr.trans (.same (new_same hD)), R.cf⟩
theorem RS.put {o' : HO} (R : RS (B.inC D) L s σ H) (hD : H D = some o) (hb : Box o) (h0 : BN B.H D) (tn : NT o') : RS (B.inC D) L s σ (upd H D o') := by
  have h : AtD (B.inC D).Pv (B.inC D).Pv H (upd H D o') D := ⟨fun a n => upd_ne n, .inr ⟨.inl rfl, _, hD, hb⟩, fun a n p => p⟩
  refine ⟨R.hr.atD h ⟨_, upd_same, tn⟩ fun a p => .inr p, R.len, fun i w e => let ⟨v, e1, r⟩ := R.sl i w e; ⟨v, e1, RpW.atD h r⟩, ⟨R.gr.pre, R.gr.len, fun a u t e n => ?_⟩, R.cf⟩
  have : a ≠ D := fun z => h0 u (z ▸ e) t
  rw [upd_ne this]
  exact R.gr.keep a u t e n
/-- out of it -/
theorem RS.out (R : RS (B.inC D) L s σ H) (hD : H D = some o) (hb : Box o) : RS B L s σ H := by
  have h : AtD (B.inC D).Pv B.Pv H H D := ⟨fun a n => rfl, .inr ⟨.inl rfl, _, hD, hb⟩, fun a n p => .inr p⟩
  exact ⟨R.hr.atD h ⟨_, hD, box_nt hb⟩ fun a p => .inr (.inr p), R.len, fun i w e => let ⟨v, e1, r⟩ := R.sl i w e; ⟨v, e1, RpW.atD h r⟩, R.gr, R.cf⟩
theorem RS.slots {s' : AS} {σ' : L2.St} (R : RS B L s σ H) (h : s'.os = s.os) (he : s'.es = s.es) (hl : s'.sl.length = σ'.length) (k : ∀ (i : Nat) (w : W), s'.sl[i]? = some (some w) → ∃ v, σ'[i]? = some (some v) ∧ RpW B.g B.Pv L s.os H v w) : RS B L s' σ' H :=
  ⟨h ▸ R.hr, hl, fun i w e => h ▸ k i w e, h ▸ R.gr, h ▸ he ▸ R.cf⟩
end
/-! ### the slots of a block's own names -/
def wipeS (sl : List (Option W)) : List Nat → List (Option W)
  | [] => sl
  | v :: vs => (wipeS sl vs).set v none
theorem wipeS_length (sl : List (Option W)) : ∀ vs, (wipeS sl vs).length = sl.length
  | [] => rfl
  | v :: vs => by rw [wipeS, List.length_set, wipeS_length sl vs]
theorem wipeS_some {sl : List (Option W)} {i : Nat} {x : W} : ∀ {vs : List Nat}, (wipeS sl vs)[i]? = some (some x) → sl[i]? = some (some x) ∧ i ∉ vs
  | [], h => ⟨h, by simp⟩
  | v :: vs, h => by
    unfold wipeS at h
    by_cases hi : v = i
    · subst hi
      by_cases hv : v < (wipeS sl vs).length
      · rw [List.getElem?_set_self hv] at h; cases h
      · rw [List.getElem?_eq_none (by simpa using hv)] at h; cases h
    · rw [List.getElem?_set_ne hi] at h
      obtain ⟨h1, h2⟩ := wipeS_some h
      exact ⟨h1, by simp only [List.mem_cons, not_or]; exact ⟨fun e => hi e.symm, h2⟩⟩
theorem wipe_get {σ : L2.St} {i : Nat} : ∀ {vs : List Nat}, (wipe σ vs)[i]? = if i ∈ vs then (if i < σ.length then some none else none) else σ[i]?
  | [] => by rw [if_neg (by simp)]; rfl
  | v :: vs => by
    unfold wipe
    by_cases hi : v = i
    · subst hi
      rw [if_pos List.mem_cons_self, List.getElem?_set]
      rw [if_pos rfl, wipe_length]
    · rw [List.getElem?_set_ne hi, wipe_get (vs := vs)]
      by_cases hm : i ∈ vs
      · rw [if_pos hm, if_pos (List.mem_cons_of_mem _ hm)]
      · rw [if_neg hm, if_neg (fun z => (List.mem_cons.mp z).elim (fun q => hi q.symm) hm)]
theorem wipe_set {σ : L2.St} {i : Nat} {x : Option V} {vs : List Nat} (h : i ∈ vs) : wipe (σ.set i x) vs = wipe σ vs := by
  apply List.ext_getElem?
  intro j
  rw [wipe_get, wipe_get, List.length_set]
  by_cases hm : j ∈ vs
  · rw [if_pos hm, if_pos hm]
  · rw [if_neg hm, if_neg hm, List.getElem?_set_ne (fun z => hm (by rw [← z]; exact h))]
theorem wipe_wipe {σ : L2.St} {vs : List Nat} : wipe (wipe σ vs) vs = wipe σ vs := by
  apply List.ext_getElem?
  intro j
  rw [wipe_get, wipe_length]
  by_cases hm : j ∈ vs
  · rw [if_pos hm, wipe_get, if_pos hm]
  · rw [if_neg hm]
theorem RS.wiped {B : Bs} {L : List Addr} {s : AS} {σ : L2.St} {H : Hp} {vs : List Nat} (R : RS B L s σ H) : RS B L { s with sl := wipeS s.sl vs } (wipe σ vs) H :=
  R.slots rfl rfl (by show (wipeS s.sl vs).length = _; rw [wipeS_length, wipe_length]; exact R.len) fun i w e => by
    obtain ⟨e1, e2⟩ := wipeS_some e
    obtain ⟨v, e3, r⟩ := R.sl i w e1
    exact ⟨v, by rw [wipe_out e2]; exact e3, r⟩
/-! ### targets of a comprehension -/
inductive Tg where
  | nm (i : Nat)
  | tp (is : List Nat)
def setAll (sl : List (Option W)) : List Nat → List W → List (Option W)
  | i :: is, w :: ws => setAll (sl.set i (some w)) is ws
  | _, _ => sl
def tgS : Tg → W → AS → Option AS
  | .nm i, w, s => some { s with sl := s.sl.set i (some w) }
  | .tp is, .d (.tuple xs), s => if xs.length = is.length then some { s with sl := setAll s.sl is (xs.map .d) } else none
  | _, _, _ => none
def Tg.all : Tg → List Nat
  | .nm i => [i]
  | .tp is => is
def gNames : List Nat → TGs
  | [] => gNil
  | i :: is => gCons (gName i) (gNames is)
def tgL (K : PySem.W.Frag) : Tg → TG
  | .nm i => gName i
  | .tp is => gTup K is.length (gNames is)
theorem gNames_ok {B : Bs} {L : List Addr} {H : Hp} {own : List Nat} {Q : L2.St → Hp → Prop} : ∀ {is : List Nat} {vs : List V} {ws : List W} {s : AS} {σ : L2.St}, (∀ i ∈ is, i ∈ own) → is.length = ws.length → RpWs B.g B.Pv L s.os H vs ws → RS B L s σ H →
    (∀ σ2, wipe σ2 own = wipe σ own → RS B L { s with sl := setAll s.sl is ws } σ2 H → Q σ2 H) → gNames is vs σ H Q
  | [], _, _, s, σ, _, hl, r, R, k => by
    cases r with
    | nil => exact ⟨rfl, k σ rfl R⟩
    | cons _ _ => cases hl
  | i :: is, _, _, s, σ, ho, hl, r, R, k => by
    cases r with
    | nil => cases hl
    | @cons v w vs ws r rr =>
      refine ⟨v, vs, rfl, ?_⟩
      refine gNames_ok (s := { s with sl := s.sl.set i (some w) }) (σ := σ.set i (some v)) (fun j h => ho j (List.mem_cons_of_mem _ h)) (by simpa using hl) rr (R.set r) fun σ2 h2 R2 => ?_
      exact k σ2 (h2.trans (wipe_set (ho i List.mem_cons_self))) R2
theorem tgL_ok {B : Bs} {L : List Addr} {H : Hp} {own : List Nat} {Q : L2.St → Hp → Prop} {t : Tg} {v : V} {w : W} {s s1 : AS} {σ : L2.St} (ho : ∀ i ∈ t.all, i ∈ own) (r : RpW B.g B.Pv L s.os H v w) (R : RS B L s σ H) (e : tgS t w s = some s1)
    (k : ∀ σ2, wipe σ2 own = wipe σ own → RS B L s1 σ2 H → Q σ2 H) : tgL B.g.K t v σ H Q := by
  cases t with
  | nm i => cases e; exact k _ (wipe_set (ho i List.mem_cons_self)) (R.set r)
  | tp is =>
    match w, r, e with
    | .d (.tuple xs), r, e =>
      have e : (if xs.length = is.length then some { s with sl := setAll s.sl is (xs.map .d) } else none) = some s1 := e
      split at e
      · rename_i hl
        cases e
        have r : Rp B.g.P B.g.w B.g.K H _ v (.tuple xs) := r
        cases r with
        | tup hs ra =>
          refine ⟨_, _, rfl, hs, by rw [ra.length]; exact hl, ?_⟩
          exact gNames_ok ho (by rw [List.length_map]; exact hl.symm) ra.ws R k
      · cases e
/-! ### list comprehensions -/
def compL (t : Tg) (c : FM Bool) (e : FM W) (sl0 : List (Option W)) : List W → AS → Option (AS × List PyData)
  | [], s => some (s, [])
  | w :: ws, s => match tgS t w { s with sl := sl0 } with
    | some s1 => match c s1 with
      | some (.ok true s2) => match e s2 with
        | some (.ok (.d x) s3) => (compL t c e sl0 ws s3).map fun p => (p.1, x :: p.2)
        | _ => none
      | some (.ok false s2) => compL t c e sl0 ws s2
      | _ => none
    | none => none
def mComp (mi : FM (List W)) (t : Tg) (own : List Nat) (c : FM Bool) (e : FM W) : FM W := mi.bind fun ws s => match compL t c e (wipeS s.sl own) ws s with
  | some (s1, xs) => if xs.length ≤ big then some (.ok (.d (.list xs)) { s1 with sl := s.sl }) else none
  | none => none
def mYes : FM Bool := FM.pure true
theorem PE.ex {X : Cx} {e : Expr} {ι : Type} {t : ι → TE} (h : ∀ D, PE X e (t D)) : PE X e (fun σ H Q => ∃ D, t D σ H Q) := ⟨fun pins s σ H Q I ⟨D, q⟩ => (h D).run pins s σ H Q I q⟩
theorem PT.ex {X : Cx} {e : Expr} {ι : Type} {t : ι → TT} (h : ∀ D, PT X e (t D)) : PT X e (fun σ H Q => ∃ D, t D σ H Q) := ⟨fun pins s σ H Q I ⟨D, q⟩ => (h D).run pins s σ H Q I q⟩
theorem PTs.ex {X : Cx} {e : List Expr} {ι : Type} {t : ι → TT} (h : ∀ D, PTs X e (t D)) : PTs X e (fun σ H Q => ∃ D, t D σ H Q) := ⟨fun pins s σ H Q I ⟨D, q⟩ => (h D).run pins s σ H Q I q⟩
theorem fts_nil {X : Cx} {B : Bs} : PTs X [] (fT B mYes) := ⟨fun pins s σ H Q I ⟨L, s0, o, R, e, k⟩ => by
  cases e
  exact pts_nil.run pins s σ H Q I (k H L R .refl)⟩
theorem fts_one {X : Cx} {B : Bs} {c : Expr} {t : FM Bool} (h : PT X c (fT B t)) : PTs X [c] (fT B t) := pts_one h
theorem RpAll.append {P : Program} {w : World} {K : PySem.W.Frag} {H : Hp} {A : Addr → Prop} : ∀ {vs us : List V} {xs ys : List PyData}, RpAll P w K H A vs xs → RpAll P w K H A us ys → RpAll P w K H A (vs ++ us) (xs ++ ys)
  | _, _, _, _, .nil, s => s
  | _, _, _, _, .cons r t, s => .cons r (RpAll.append t s)
theorem RS.base_none {B : Bs} {L : List Addr} {s : AS} {σ : L2.St} {H : Hp} {D : Addr} (R : RS B L s σ H) (hD : H D = none) : BN B.H D := fun o q t => by
  by_cases hl : live B.L B.os D
  · obtain ⟨n, u, e, _⟩ := hl
    exact absurd hD (R.hr.dfn n D (R.gr.pre n D e))
  · exact absurd hD (ne_some (R.gr.keep D o t q hl).1)
theorem Gr.updD {L L' : List Addr} {os os' : List Ob} {H H' : Hp} {D : Addr} {o : HO} (r : Gr L os H L' os' H') (h : H D = none) : Gr L os H L' os' (upd H' D o) :=
  ⟨r.pre, r.len, fun a u t e n => ⟨by rw [upd_ne (ne_of_none e h)]; exact r.kn a u t e n, (r.keep a u t e n).2⟩⟩
/-- all turns of a comprehension: where it ends its list is what was told -/
theorem comp_run {B : Bs} {J : It} {L1 : List Addr} {s1 sF : AS} {σ : L2.St} {H1 : Hp} {D : Addr} {ws : List W} {t : Tg} {own : List Nat} {c : FM Bool} {e : FM W} {xs : List PyData} {Qf : Hp → Prop} (ho : ∀ i ∈ t.all, i ∈ own)
    (hD : H1 D = none) (R1 : RS B L1 s1 σ H1) (sv : Sv B J L1 s1.os H1 ws) (hc : compL t c e (wipeS s1.sl own) ws s1 = some (sF, xs)) (hl : xs.length ≤ big)
    (k : ∀ H2 L2 vs, H2 D = some (.lst vs) → RS (B.inC D) L2 { sF with sl := s1.sl } σ H2 → Gr L1 s1.os H1 L2 sF.os H2 → RpAll B.g.P B.g.w B.g.K H2 (fun a => live L2 sF.os a ∨ (B.inC D).Pv a) vs xs → Qf H2) :
    ∃ W : Nat → Nat → Hp → Prop, (∃ m, W 0 m (upd H1 D (.lst []))) ∧ ∀ i m H, W i m H → (J.stop i H ∧ Qf H) ∨ (J.go i H ∧ ∃ Nx : Hp → Prop, (∀ H', Nx H' → ∃ m', m' < m ∧ W (i + 1) m' H') ∧ ∀ x H', J.yld i H x H' → tgL B.g.K t x (wipe σ own) H' fun σ2 H2 => wipe σ2 own = wipe σ own ∧ (∃ D', fT (B.inC D') c σ2 H2 fun b H3 =>
      if b = true then (∃ D', fE (B.inC D') e σ2 H3 fun y H4 => ∃ acc, H4 D = some (.lst acc) ∧ acc.length < sizeLine ∧ Nx (upd H4 D (.lst (acc ++ [y])))) else Nx H3)) := by
  have h0 := R1.base_none hD
  have hp : ∀ a, (B.inC D).Pv a → B.Pv a ∨ H1 a = none := fun a p => p.elim (fun z => .inr (z ▸ hD)) .inl
  refine ⟨fun i m H => ∃ L2 s2 vs xs1 xs2, RS (B.inC D) L2 { s2 with sl := s1.sl } σ H ∧ Gr L1 s1.os H1 L2 s2.os H ∧ H D = some (.lst vs) ∧ RpAll B.g.P B.g.w B.g.K H (fun a => live L2 s2.os a ∨ (B.inC D).Pv a) vs xs1 ∧
    compL t c e (wipeS s1.sl own) (ws.drop i) s2 = some (sF, xs2) ∧ xs1 ++ xs2 = xs ∧ m = ws.length - i ∧ i ≤ ws.length,
    ⟨_, L1, s1, [], [], xs, R1.into hD nt_lst, .same (new_same hD), upd_same, .nil, hc, rfl, rfl, Nat.zero_le _⟩, fun i m H ⟨L2, s2, vs, xs1, xs2, R2, g2, hDs, ra, e2, hx, hm, hi⟩ => ?_⟩
  by_cases hlt : i < ws.length
  · have hd : ws.drop i = ws[i] :: ws.drop (i + 1) := List.drop_eq_getElem_cons hlt
    have hg : ws[i]? = some ws[i] := List.getElem?_eq_getElem hlt
    rw [hd] at e2
    refine .inr ⟨sv.go i _ _ L2 s2.os H hg hp R2.hr g2, fun H' => ∃ L3 s3 vs3 ys1 ys2, RS (B.inC D) L3 { s3 with sl := s1.sl } σ H' ∧ Gr L1 s1.os H1 L3 s3.os H' ∧ H' D = some (.lst vs3) ∧ RpAll B.g.P B.g.w B.g.K H' (fun a => live L3 s3.os a ∨ (B.inC D).Pv a) vs3 ys1 ∧
      compL t c e (wipeS s1.sl own) (ws.drop (i + 1)) s3 = some (sF, ys2) ∧ ys1 ++ ys2 = xs, fun H' ⟨L3, s3, vs3, ys1, ys2, R3, g3, d3, r3, e3, x3⟩ => ⟨_, by omega, L3, s3, vs3, ys1, ys2, R3, g3, d3, r3, e3, x3, rfl, hlt⟩, fun x H' hy => ?_⟩
    obtain ⟨sm, rx⟩ := sv.yld i _ _ L2 s2.os H x H' hg hp R2.hr g2 hy
    unfold compL at e2
    split at e2
    · rename_i s3 h3
      have R3 := (R2.same sm).wiped (vs := own)
      have g3 : Gr L2 s2.os H L2 s2.os H' := .same sm
      refine tgL_ok (B := B.inC D) (s := { s2 with sl := wipeS s1.sl own }) ho rx R3 h3 fun σ2 hw R4 => ⟨hw.trans wipe_wipe, ?_⟩
      have hos : s3.os = s2.os ∧ s3.es = s2.es := by
        clear e2 R4
        cases t with
        | nm i => cases h3; exact ⟨rfl, rfl⟩
        | tp is =>
          match hw : ws[i], h3 with
          | .d (.tuple xs), h3 =>
            have h3 : (if xs.length = is.length then some { s2 with sl := setAll (wipeS s1.sl own) is (xs.map .d) } else none) = some s3 := h3
            split at h3
            · cases h3; exact ⟨rfl, rfl⟩
            · cases h3
      split at e2
      · rename_i s4 h4
        refine ⟨D, L2, s3, _, R4, h4, fun H4 L4 R5 g5 => ite_of ?_⟩
        split at e2
        · rename_i y s5 h5
          cases h6 : compL t c e (wipeS s1.sl own) (ws.drop (i + 1)) s5 with
          | none => rw [h6] at e2; cases e2
          | some p =>
            rw [h6] at e2
            cases e2
            refine ⟨D, L4, s4, _, R5, h5, fun v5 H5 L5 R6 r6 g6 => ?_⟩
            have gg : Gr L2 s2.os H' L5 s5.os H5 := by
              rw [← hos.1]
              exact g5.trans g6
            have hnl : ¬ live L2 s2.os D := fun z => (R2.hr.pv D (.inl rfl)).2 (live_mem z)
            have hD5 : H5 D = some (.lst vs) := gg.kn D _ nt_lst (sm _ _ hDs) hnl
            have hlen : vs.length < big := by
              rw [ra.length]
              have : xs.length = xs1.length + (p.2.length + 1) := by rw [← hx, List.length_append, List.length_cons]
              omega
            refine ⟨vs, hD5, by have := sizeLine_eq; unfold big at hlen; omega, ?_⟩
            have at5 : AtD (B.inC D).Pv (B.inC D).Pv H5 (upd H5 D (.lst (vs ++ [v5]))) D := ⟨fun a n => upd_ne n, .inr ⟨.inl rfl, _, hD5, trivial⟩, fun a n p => p⟩
            have R7 : RS (B.inC D) L5 { s5 with sl := s1.sl } σ H5 := by
              have q := R6
              exact ⟨q.hr, R2.len, fun j w ej => by
                obtain ⟨v, e1, r⟩ := R2.sl j w ej
                exact ⟨v, e1, RpW.mono R2.hr ((Gr.same sm).trans gg) r⟩, q.gr, q.cf⟩
            refine ⟨L5, s5, vs ++ [v5], xs1 ++ [y], p.2, R7.put hD5 trivial h0 nt_lst, ?_, upd_same, ?_, h6, by rw [List.append_assoc]; exact hx⟩
            · exact (g2.trans ((Gr.same sm).trans gg)).updD hD
            · exact RpAll.atD at5 (RpAll.append (RpAll.mono R2.hr ((Gr.same sm).trans gg) ra) (.cons r6 .nil))
        · cases e2
      · rename_i s4 h4
        refine ⟨D, L2, s3, _, R4, h4, fun H4 L4 R5 g5 => ite_of ?_⟩
        have gg : Gr L2 s2.os H' L4 s4.os H4 := by
          rw [← hos.1]
          exact g5
        have hnl : ¬ live L2 s2.os D := fun z => (R2.hr.pv D (.inl rfl)).2 (live_mem z)
        have hD5 : H4 D = some (.lst vs) := gg.kn D _ nt_lst (sm _ _ hDs) hnl
        have R7 : RS (B.inC D) L4 { s4 with sl := s1.sl } σ H4 := by
          have q := R5
          exact ⟨q.hr, R2.len, fun j w ej => by
            obtain ⟨v, e1, r⟩ := R2.sl j w ej
            exact ⟨v, e1, RpW.mono R2.hr ((Gr.same sm).trans gg) r⟩, q.gr, q.cf⟩
        exact ⟨L4, s4, vs, xs1, xs2, R7, g2.trans ((Gr.same sm).trans gg), hD5, RpAll.mono R2.hr ((Gr.same sm).trans gg) ra, e2, hx⟩
      · cases e2
    · cases e2
  · have he : i = ws.length := by omega
    subst he
    rw [List.drop_length] at e2
    cases e2
    rw [List.append_nil] at hx
    subst hx
    exact .inl ⟨sv.stop _ L2 _ H hp R2.hr g2, k H L2 vs hDs R2 g2 ra⟩
theorem set_rd {B : Bs} {m : FM W} {i : Nat} {D : Ends} {σ : L2.St} {H : Hp} (h : fS B (mAsg m (gSet i)) D σ H) : fE B m σ H fun x H1 => gName i x σ H1 D.nx := by
  obtain ⟨L, s, o, R, e, k⟩ := h
  refine fE.bind R e k.ex fun w s1 v H1 L1 e1 R1 r1 g1 => ?_
  cases e1
  exact k _ H1 L1 (R1.set r1) g1
section
variable {X : Cx} {B : Bs} {tg iter elt : Expr} {ifs : List Expr} {scope : Scope} {own : List (Str × Nat)} {pos : Pos} {mi : FM (List W)} {t : Tg} {c : FM Bool} {m : FM W}
/-- [elt for tg in iter if ..], a list that nobody will change -/
theorem f_lc_rd (hK : X.K = B.g.K) {own : List Nat} (ho : ∀ i ∈ t.all, i ∈ own) {σ : L2.St} {H : Hp} {Q : VK} (h : fE B (mComp mi t own c m) σ H Q) : tLc (fI B mi) (tgL X.K t) (fun σ H Q => ∃ D, fT (B.inC D) c σ H Q) (fun σ H Q => ∃ D, fE (B.inC D) m σ H Q) own σ H Q := by
  obtain ⟨L, s, o, R, e, k⟩ := h
  rcases bind_some e with ⟨ws, s1, e0, e1⟩ | ⟨x, s1, e1, rfl⟩
  · refine ⟨L, s, _, R, e0, fun J H1 L1 R1 g1 sv D hD => ?_⟩
    split at e1
    · rename_i sF xs hcl
      split at e1
      · rename_i hl
        cases e1
        rw [hK]
        refine comp_run (Qf := fun H => Q (.ref D) H) ho hD R1 sv hcl hl fun H2 L2 vs d2 R2 g2 ra => ?_
        have R3 := R2.out d2 trivial
        refine k (.ref D) H2 L2 R3 ?_ (g1.trans g2)
        have at_ : AtD (B.inC D).Pv B.Pv H2 H2 D := ⟨fun a n => rfl, .inr ⟨.inl rfl, _, d2, trivial⟩, fun a n p => .inr p⟩
        refine .lst (.inl d2) (fun z => z.elim (fun q => (R2.hr.pv D (.inl rfl)).2 (live_mem q)) fun q => (R1.hr.pv D q).1.ne hD) (RpAll.atD at_ ra)
      · cases e1
    · cases e1
  · exact ⟨L, s, _, R, e1, k⟩
theorem f_lc (hK : X.K = B.g.K) (hc : X.calm = true) (hN : X.N.Nodup) (hi : PI X tg iter (fI B mi)) (ok : BlkOk X.N X.env.scope scope own) (ho : ∀ i ∈ t.all, i ∈ own.map (·.2))
    (hg : ∀ (s : Shared) (H : Hp) (C : Addr) (cl : List (Str × Addr)) (fp : List Addr), PG (X.blk s H scope (compEnvC scope cl C X.env) fp) tg (tgL X.K t))
    (ht : ∀ (D : Addr) (s : Shared) (H : Hp) (C : Addr) (cl : List (Str × Addr)) (fp : List Addr), PTs (X.blk s H scope (compEnvC scope cl C X.env) fp) ifs (fT (B.inC D) c))
    (he : ∀ (D : Addr) (s : Shared) (H : Hp) (C : Addr) (cl : List (Str × Addr)) (fp : List Addr), PE (X.blk s H scope (compEnvC scope cl C X.env) fp) elt (fE (B.inC D) m)) (hs : ∀ x, foldedSetIterable iter X.env x = pure x := by intro _; rfl) :
    PE X (.ListComp elt [⟨tg, iter, ifs, 0⟩] scope pos) (fE B (mComp mi t (own.map (·.2)) c m)) := PE.imp (pe_lc hc hN hi ok hg (fun s H C cl fp => PTs.ex fun D => ht D s H C cl fp) (fun s H C cl fp => PE.ex fun D => he D s H C cl fp) hs) fun σ H Q h => f_lc_rd hK ho h
theorem fs_lc_set {i : Nat} {y : Str} {py spos : Pos} (hy : X.N[i]? = some y) (hyl : X.env.scope.names.lookup y = some .local) (hsw : swapsWith (.ListComp elt [⟨tg, iter, ifs, 0⟩] scope pos) (some (.Name y py)) spos.line X.env = pure true) (hK : X.K = B.g.K) (hc : X.calm = true) (hN : X.N.Nodup) (hi : PI X tg iter (fI B mi)) (ok : BlkOk X.N X.env.scope scope own) (ho : ∀ i ∈ t.all, i ∈ own.map (·.2))
    (hg : ∀ (s : Shared) (H : Hp) (C : Addr) (cl : List (Str × Addr)) (fp : List Addr), PG (X.blk s H scope (compEnvC scope cl C X.env) fp) tg (tgL X.K t))
    (ht : ∀ (D : Addr) (s : Shared) (H : Hp) (C : Addr) (cl : List (Str × Addr)) (fp : List Addr), PTs (X.blk s H scope (compEnvC scope cl C X.env) fp) ifs (fT (B.inC D) c))
    (he : ∀ (D : Addr) (s : Shared) (H : Hp) (C : Addr) (cl : List (Str × Addr)) (fp : List Addr), PE (X.blk s H scope (compEnvC scope cl C X.env) fp) elt (fE (B.inC D) m)) (hs : ∀ x, foldedSetIterable iter X.env x = pure x := by intro _; rfl) :
    PS X (.Assign [.Name y py] (.ListComp elt [⟨tg, iter, ifs, 0⟩] scope pos) spos) (fS B (mAsg (mComp mi t (own.map (·.2)) c m) (gSet i))) := PS.imp (ps_setLc hc hN hy hyl hsw hi ok hg (fun s H C cl fp => PTs.ex fun D => ht D s H C cl fp) (fun s H C cl fp => PE.ex fun D => he D s H C cl fp) hs) fun D σ H h => f_lc_rd hK ho (set_rd h)
end
/-- .. a list that will be changed -/
def mCompB (mi : FM (List W)) (t : Tg) (own : List Nat) (c : FM Bool) (e : FM W) : FM W := mi.bind fun ws s => match compL t c e (wipeS s.sl own) ws s with
  | some (s1, xs) => if xs.length ≤ big then some (.ok (.obj s1.os.length) { s1 with sl := s.sl, os := s1.os ++ [.lst (xs.map .d)] }) else none
  | none => none
/-- what stands at D becomes an object -/
theorem HR.adopt {g : G} {Pv : Addr → Prop} {L : List Addr} {os : List Ob} {H : Hp} {p : Addr} {o : Ob} (R : HR g (fun a => a = p ∨ Pv a) L os H) (np : ¬ Pv p) (hd : Df H p) (hw : o.refs (· < os.length)) (hob : ObR g (fun a => a = p ∨ Pv a) L os H p o) (nt : ∀ q, o ≠ .tab q) :
    HR g Pv (L ++ [p]) (os ++ [o]) H := by
  have hpL := (R.pv p (.inl rfl)).2
  have lv : ∀ a, live (L ++ [p]) (os ++ [o]) a → live L os a ∨ a = p := fun a z => live_push R.len z
  have st : ∀ {v x}, Rp g.P g.w g.K H (fun a => live L os a ∨ (a = p ∨ Pv a)) v x → Rp g.P g.w g.K H (fun a => live (L ++ [p]) (os ++ [o]) a ∨ Pv a) v x := fun h =>
    Rp.stay (g := g) ⟨fun _ _ q => q, fun _ _ _ q _ => q, fun _ _ _ q _ => q, fun a o _ e n z => z.elim (fun q => (lv a q).elim (fun q => n (.inl q)) fun q => n (.inr (.inl q))) fun q => n (.inr (.inr q))⟩ _ _ h
  have sta : ∀ {v x}, RpAll g.P g.w g.K H (fun a => live L os a ∨ (a = p ∨ Pv a)) v x → RpAll g.P g.w g.K H (fun a => live (L ++ [p]) (os ++ [o]) a ∨ Pv a) v x := fun h =>
    RpAll.stay (g := g) ⟨fun _ _ q => q, fun _ _ _ q _ => q, fun _ _ _ q _ => q, fun a o _ e n z => z.elim (fun q => (lv a q).elim (fun q => n (.inl q)) fun q => n (.inr (.inl q))) fun q => n (.inr (.inr q))⟩ _ _ h
  have mw : ∀ {v : V} {w : W}, RpW g (fun a => a = p ∨ Pv a) L os H v w → RpW g Pv (L ++ [p]) (os ++ [o]) H v w := fun {v w} h => by
    cases w with
    | d x => exact st h
    | obj n => obtain ⟨a, e, r⟩ := h; exact ⟨a, get_push.mpr (.inl e), r⟩
    | exc e =>
      obtain ⟨a, cls, d, e1, n, q, C, dx, fs, h1, h2, h3, h4, h5⟩ := h
      refine ⟨a, cls, d, e1, fun z => z.elim (fun z => (lv a z).elim (fun z => n (.inl z)) fun z => n (.inr (.inl z))) fun z => n (.inr (.inr z)), q, C, dx, fs, h1, h2, h3, h4, fun f v q => let ⟨u, q1, q2⟩ := h5 f v q; ⟨u, q1, st q2⟩⟩
  have mo : ∀ {a : Addr} {u : Ob}, ObR g (fun a => a = p ∨ Pv a) L os H a u → ObR g Pv (L ++ [p]) (os ++ [o]) H a u := fun {a u} h => by
    cases h with
    | dead => exact .dead
    | lst h q => exact .lst h (Paired.mapP q fun _ _ => mw)
    | dK h r q => exact .dK h (sta r) (Paired.mapP q fun _ _ => mw)
    | dN h r n q => exact .dN h (sta r) n (Paired.mapP q fun _ _ => mw)
    | ins c h n q => exact .ins c h n (Paired.mapP q fun _ _ => mw)
    | tab ea h t k => exact .tab ea h t fun p cv z => let ⟨c, z1, z2, z3⟩ := k p cv z; ⟨c, z1, z2, fun y => z3 (.inr y)⟩
  refine ⟨by rw [List.length_append, List.length_append, R.len]; rfl, fun i j a e1 e2 => ?_, fun m b e => ?_, fun m b u e1 e2 => ?_, fun m u e => ?_, fun b q => ?_, fun m q e => (get_push.mp e).elim (R.tb m q) fun z => absurd z.2 (nt q)⟩
  · rcases get_push.mp e1 with e1 | ⟨e1, rfl⟩
    · rcases get_push.mp e2 with e2 | ⟨e2, rfl⟩
      · exact R.inj i j a e1 e2
      · exact absurd (List.mem_of_getElem? e1) hpL
    · rcases get_push.mp e2 with e2 | ⟨e2, _⟩
      · exact absurd (List.mem_of_getElem? e2) hpL
      · omega
  · rcases get_push.mp e with e | ⟨e, rfl⟩
    · exact R.dfd m b e
    · obtain ⟨o, q, t⟩ := hd
      exact ⟨o, q, .inl t⟩
  · rcases get_push.mp e1 with e1 | ⟨e1, rfl⟩
    · rcases get_push.mp e2 with e2 | ⟨e2, rfl⟩
      · exact mo (R.ob m b u e1 e2)
      · exact absurd (List.getElem?_eq_some_iff.mp e1).1 (by have := R.len; omega)
    · rcases get_push.mp e2 with e2 | ⟨e2, rfl⟩
      · exact absurd (List.getElem?_eq_some_iff.mp e2).1 (by have := R.len; omega)
      · exact mo hob
  · rw [List.length_append]
    rcases get_push.mp e with e | ⟨e, rfl⟩
    · exact (R.wf m u e).mono fun n h => by show n < os.length + 1; omega
    · exact hw.mono fun n h => by show n < os.length + 1; omega
  · obtain ⟨p1, p2⟩ := R.pv b (.inr q)
    exact ⟨p1, fun z => (List.mem_append.mp z).elim p2 fun e => np (by rw [← List.mem_singleton.mp e]; exact q)⟩
theorem RS.adopt {B : Bs} {L : List Addr} {s : AS} {σ : L2.St} {H : Hp} {D : Addr} {vs : List V} {xs : List PyData} (R : RS (B.inC D) L s σ H) (np : ¬ B.Pv D) (h0 : BN B.H D) (hD : H D = some (.lst vs)) (r : RpAll B.g.P B.g.w B.g.K H (fun a => live L s.os a ∨ (B.inC D).Pv a) vs xs) :
    RS B (L ++ [D]) { s with os := s.os ++ [.lst (xs.map .d)] } σ H := by
  have lv : ∀ a, live (L ++ [D]) (s.os ++ [.lst (xs.map .d)]) a → live L s.os a ∨ a = D := fun a z => live_push R.hr.len z
  refine ⟨R.hr.adopt np ⟨_, hD, nt_lst⟩ (refs_d xs) (.lst hD r.ws) (fun q z => nomatch z), R.len, fun i w e => ?_, ⟨fun n a e => get_push.mpr (.inl (R.gr.pre n a e)), ?_, fun a o t e n => ⟨(R.gr.keep a o t e n).1, fun z => (lv a z).elim (R.gr.keep a o t e n).2 fun q => ?_⟩⟩, ?_⟩
  · obtain ⟨v, e1, rw_⟩ := R.sl i w e
    refine ⟨v, e1, ?_⟩
    cases w with
    | d x => exact Rp.stay (g := B.g) ⟨fun _ _ q => q, fun _ _ _ q _ => q, fun _ _ _ q _ => q, fun a o _ e n z => z.elim (fun q => (lv a q).elim (fun q => n (.inl q)) fun q => n (.inr (.inl q))) fun q => n (.inr (.inr q))⟩ _ _ rw_
    | obj n => obtain ⟨a, e, r⟩ := rw_; exact ⟨a, get_push.mpr (.inl e), r⟩
    | exc e =>
      obtain ⟨a, cls, d, e1, n, q, C, dx, fs, h1, h2, h3, h4, h5⟩ := rw_
      refine ⟨a, cls, d, e1, fun z => z.elim (fun z => (lv a z).elim (fun z => n (.inl z)) fun z => n (.inr (.inl z))) fun z => n (.inr (.inr z)), q, C, dx, fs, h1, h2, h3, h4, fun f v q => let ⟨u, q1, q2⟩ := h5 f v q; ⟨u, q1, Rp.stay (g := B.g) ⟨fun _ _ q => q, fun _ _ _ q _ => q, fun _ _ _ q _ => q, fun a o _ e n z => z.elim (fun q => (lv a q).elim (fun q => n (.inl q)) fun q => n (.inr (.inl q))) fun q => n (.inr (.inr q))⟩ _ _ q2⟩⟩
  · rw [List.length_append]; exact Nat.le_trans R.gr.len (Nat.le_add_right _ _)
  · exact h0 o (by rw [← q]; exact e) t
  · have c := Cf.trans R.cf R.gr.len (Cf.push (os := s.os) (o := .lst (xs.map .d)))
    rw [List.append_nil] at c
    exact c
section
variable {X : Cx} {B : Bs} {tg iter elt : Expr} {ifs : List Expr} {scope : Scope} {own : List (Str × Nat)} {pos : Pos} {mi : FM (List W)} {t : Tg} {c : FM Bool} {m : FM W}
theorem f_lcB_rd (hK : X.K = B.g.K) {own : List Nat} (ho : ∀ i ∈ t.all, i ∈ own) {σ : L2.St} {H : Hp} {Q : VK} (h : fE B (mCompB mi t own c m) σ H Q) : tLc (fI B mi) (tgL X.K t) (fun σ H Q => ∃ D, fT (B.inC D) c σ H Q) (fun σ H Q => ∃ D, fE (B.inC D) m σ H Q) own σ H Q := by
  obtain ⟨L, s, o, R, e, k⟩ := h
  rcases bind_some e with ⟨ws, s1, e0, e1⟩ | ⟨x, s1, e1, rfl⟩
  · refine ⟨L, s, _, R, e0, fun J H1 L1 R1 g1 sv D hD => ?_⟩
    split at e1
    · rename_i sF xs hcl
      split at e1
      · rename_i hl
        cases e1
        rw [hK]
        have h0 := R1.base_none hD
        refine comp_run (Qf := fun H => Q (.ref D) H) ho hD R1 sv hcl hl fun H2 L2 vs d2 R2 g2 ra => ?_
        have R3 := R2.adopt (fun q => (R1.hr.pv D q).1.ne hD) h0 d2 ra
        refine k (.ref D) H2 _ R3 ⟨D, get_push.mpr (.inr ⟨R2.hr.len.symm, rfl⟩), rfl⟩ (g1.trans ⟨fun n a e => get_push.mpr (.inl (g2.pre n a e)), ?_, fun a o t e n => ⟨(g2.keep a o t e n).1, fun z => (live_push R2.hr.len z).elim (g2.keep a o t e n).2 fun q => ?_⟩⟩)
        · rw [List.length_append]; exact Nat.le_trans g2.len (Nat.le_add_right _ _)
        · rw [q, hD] at e; cases e
      · cases e1
    · cases e1
  · exact ⟨L, s, _, R, e1, k⟩
theorem f_lcB (hK : X.K = B.g.K) (hc : X.calm = true) (hN : X.N.Nodup) (hi : PI X tg iter (fI B mi)) (ok : BlkOk X.N X.env.scope scope own) (ho : ∀ i ∈ t.all, i ∈ own.map (·.2))
    (hg : ∀ (s : Shared) (H : Hp) (C : Addr) (cl : List (Str × Addr)) (fp : List Addr), PG (X.blk s H scope (compEnvC scope cl C X.env) fp) tg (tgL X.K t))
    (ht : ∀ (D : Addr) (s : Shared) (H : Hp) (C : Addr) (cl : List (Str × Addr)) (fp : List Addr), PTs (X.blk s H scope (compEnvC scope cl C X.env) fp) ifs (fT (B.inC D) c))
    (he : ∀ (D : Addr) (s : Shared) (H : Hp) (C : Addr) (cl : List (Str × Addr)) (fp : List Addr), PE (X.blk s H scope (compEnvC scope cl C X.env) fp) elt (fE (B.inC D) m)) (hs : ∀ x, foldedSetIterable iter X.env x = pure x := by intro _; rfl) :
    PE X (.ListComp elt [⟨tg, iter, ifs, 0⟩] scope pos) (fE B (mCompB mi t (own.map (·.2)) c m)) := PE.imp (pe_lc hc hN hi ok hg (fun s H C cl fp => PTs.ex fun D => ht D s H C cl fp) (fun s H C cl fp => PE.ex fun D => he D s H C cl fp) hs) fun σ H Q h => f_lcB_rd hK ho h
theorem fs_lcB_set {i : Nat} {y : Str} {py spos : Pos} (hy : X.N[i]? = some y) (hyl : X.env.scope.names.lookup y = some .local) (hsw : swapsWith (.ListComp elt [⟨tg, iter, ifs, 0⟩] scope pos) (some (.Name y py)) spos.line X.env = pure true) (hK : X.K = B.g.K) (hc : X.calm = true) (hN : X.N.Nodup) (hi : PI X tg iter (fI B mi)) (ok : BlkOk X.N X.env.scope scope own) (ho : ∀ i ∈ t.all, i ∈ own.map (·.2))
    (hg : ∀ (s : Shared) (H : Hp) (C : Addr) (cl : List (Str × Addr)) (fp : List Addr), PG (X.blk s H scope (compEnvC scope cl C X.env) fp) tg (tgL X.K t))
    (ht : ∀ (D : Addr) (s : Shared) (H : Hp) (C : Addr) (cl : List (Str × Addr)) (fp : List Addr), PTs (X.blk s H scope (compEnvC scope cl C X.env) fp) ifs (fT (B.inC D) c))
    (he : ∀ (D : Addr) (s : Shared) (H : Hp) (C : Addr) (cl : List (Str × Addr)) (fp : List Addr), PE (X.blk s H scope (compEnvC scope cl C X.env) fp) elt (fE (B.inC D) m)) (hs : ∀ x, foldedSetIterable iter X.env x = pure x := by intro _; rfl) :
    PS X (.Assign [.Name y py] (.ListComp elt [⟨tg, iter, ifs, 0⟩] scope pos) spos) (fS B (mAsg (mCompB mi t (own.map (·.2)) c m) (gSet i))) := PS.imp (ps_setLc hc hN hy hyl hsw hi ok hg (fun s H C cl fp => PTs.ex fun D => ht D s H C cl fp) (fun s H C cl fp => PE.ex fun D => he D s H C cl fp) hs) fun D σ H h => f_lcB_rd hK ho (set_rd h)
end
end FL
namespace FL
open PySem PySem.Spec PyProof.Rows L2
theorem OpR.imp {X : Cx} {f : Value → Value → Sem Value} {r r' : R2} (h : OpR X f r) (k : ∀ x y H Q, r' x y H Q → r x y H Q) : OpR X f r' := fun pins s σ H x y v u Q I rx ry q => h pins s σ H x y v u Q I rx ry (k _ _ _ _ q)
theorem IxR.imp {X : Cx} {r r' : R2} (h : IxR X r) (k : ∀ x y H Q, r' x y H Q → r x y H Q) : IxR X r' := fun a b pins s σ H x y v u Q I rx ry q => h a b pins s σ H x y v u Q I rx ry (k _ _ _ _ q)
theorem CallR.imp {X : Cx} {f : Value} {r r' : List V → Hp → VK → Prop} (h : CallR X f r) (k : ∀ x H Q, r' x H Q → r x H Q) : CallR X f r' := fun pins s σ H xs us Q I rx q => h pins s σ H xs us Q I rx (k _ _ _ q)
theorem OpR.or3 {X : Cx} {f : Value → Value → Sem Value} {r r' r'' : R2} (h : OpR X f r) (h' : OpR X f r') (h'' : OpR X f r'') : OpR X f (fun x y H Q => r x y H Q ∨ r' x y H Q ∨ r'' x y H Q) := h.or (h'.or h'')
section
variable {g : G} {Pv : Addr → Prop} {L : List Addr} {os : List Ob} {H : Hp}
/-! ### reading what a value is -/
theorem rp_str {v : V} {z : Str} (r : RpW g Pv L os H v (.d (.str z))) : v = .str z := by
  have r : Rp g.P g.w g.K H _ v (.str z) := r
  cases r
  rfl
theorem rp_non {v : V} (r : RpW g Pv L os H v (.d .none)) : v = .non := by
  have r : Rp g.P g.w g.K H _ v .none := r
  cases r
  rfl
theorem rp_tup {v : V} {xs : List PyData} (r : RpW g Pv L os H v (.d (.tuple xs))) : ∃ a vs, v = .ref a ∧ SqT g.K H a vs ∧ RpAll g.P g.w g.K H (fun a => live L os a ∨ Pv a) vs xs := by
  have r : Rp g.P g.w g.K H _ v (.tuple xs) := r
  cases r with
  | tup h r => exact ⟨_, _, rfl, h, r⟩
/-- the items of a list, whether a value or an object -/
def itemsO : Option Ob → Option (List W)
  | some (.lst ws) => some ws
  | _ => none
def itemsL (os : List Ob) : W → Option (List W)
  | .d (.list xs) => some (xs.map .d)
  | .obj n => itemsO os[n]?
  | _ => none
theorem itemsL_ok (R : HR g Pv L os H) {v : V} {w : W} {ws : List W} (r : RpW g Pv L os H v w) (h : itemsL os w = some ws) : ∃ a vs, v = .ref a ∧ Rd H a (.lst vs) ∧ RpWs g Pv L os H vs ws := by
  match w, r, h with
  | .d (.list xs), r, h =>
    cases h
    have r : Rp g.P g.w g.K H _ v (.list xs) := r
    cases r with
    | lst h n r => exact ⟨_, _, rfl, h, r.ws⟩
  | .obj n, r, h =>
    obtain ⟨a, e, rfl⟩ := r
    have h : itemsO os[n]? = some ws := h
    cases ho : os[n]? with
    | none => rw [ho] at h; cases h
    | some o =>
      rw [ho] at h
      cases R.ob n a o e ho with
      | lst hl rl => cases h; exact ⟨a, _, rfl, .inl hl, rl⟩
      | dead => cases h
      | dK => cases h
      | dN => cases h
      | ins => cases h
      | tab => cases h
def itemsT : W → Option (List W)
  | .d (.tuple xs) => some (xs.map .d)
  | _ => none
theorem itemsT_ok {v : V} {w : W} {ws : List W} (r : RpW g Pv L os H v w) (h : itemsT w = some ws) : ∃ a vs, v = .ref a ∧ SqT g.K H a vs ∧ RpWs g Pv L os H vs ws := by
  match w, r, h with
  | .d (.tuple xs), r, h =>
    cases h
    obtain ⟨a, vs, e, h, r⟩ := rp_tup r
    exact ⟨a, vs, e, h, r.ws⟩
theorem RpWs.get {vs : List V} {ws : List W} {i : Nat} {w : W} (r : RpWs g Pv L os H vs ws) (e : ws[i]? = some w) : ∃ v, vs[i]? = some v ∧ RpW g Pv L os H v w := by
  induction r generalizing i with
  | nil => simp at e
  | cons a t ih =>
    cases i with
    | zero => simp at e; subst e; exact ⟨_, by simp, a⟩
    | succ j =>
      obtain ⟨v, h1, h2⟩ := ih (by simpa using e)
      exact ⟨v, by simpa using h1, h2⟩
theorem RpWs.atI {vs : List V} {ws : List W} {i : Int} {w : W} (r : RpWs g Pv L os H vs ws) (e : L2.atI ws i = some w) : ∃ v, L2.atI vs i = some v ∧ RpW g Pv L os H v w := by
  unfold L2.atI at e ⊢
  rw [Paired.length r]
  cases q : ixN ws.length i with
  | none => rw [q] at e; cases e
  | some j => rw [q] at e; exact r.get e
/-! ### what a value's type is -/
def tyD : PyData → String
  | .none => "NoneType" | .bool _ => "bool" | .int _ => "int" | .str _ => "str" | .tuple _ => "tuple" | .list _ => "list" | .dict _ => "dict"
def tyO : Option Ob → Option String
  | some (.lst _) => some "list"
  | _ => none
def tyW (os : List Ob) : W → Option String
  | .d x => some (tyD x)
  | .obj n => tyO os[n]?
  | .exc _ => none
end
/-! ### index -/
def gIx (os : List Ob) (w u : W) : Option W := match u with
  | .d (.int i) => match w with
    | .d (.str z) => if z.length ≤ big then (L2.atI z.cps.toList i).map fun c => .d (.str ⟨#[c]⟩) else none
    | .d (.tuple xs) => (L2.atI xs i).map .d
    | .d (.list xs) => (L2.atI xs i).map .d
    | .obj n => (itemsO os[n]?).bind fun ws => L2.atI ws i
    | _ => none
  | _ => none
theorem atI_map {α β : Type} {f : α → β} {xs : List α} {i : Int} : L2.atI (xs.map f) i = (L2.atI xs i).map f := by
  unfold L2.atI
  rw [List.length_map]
  cases ixN xs.length i with
  | none => rfl
  | some j => exact List.getElem?_map
theorem ix_ok {X : Cx} {B : Bs} (hK : X.K = B.g.K) : IxR X (rF2 B gIx) := IxR.imp (ix_seq (X := X)) fun x y H Q ⟨L, os, w, u, r, R, rw, ru, e, k⟩ => by
  have lst : ∀ {ws : List W} {i : Int}, itemsL os w = some ws → y = .int i → L2.atI ws i = some r → rIxL X.K x y H Q := fun {ws i} h1 h2 h3 => by
    obtain ⟨a, vs, e1, e2, e3⟩ := itemsL_ok R rw h1
    obtain ⟨v, e4, e5⟩ := e3.atI h3
    exact ⟨a, vs, i, v, e1, h2, .inl e2, e4, k v H (Same.refl H) e5⟩
  unfold gIx at e
  split at e
  · rename_i i
    have hy := rpW_int ru
    split at e
    · rename_i z
      split at e
      · rename_i hl
        cases q : L2.atI z.cps.toList i with
        | none => rw [q] at e; cases e
        | some c =>
          rw [q] at e
          cases e
          exact .inr (.inr ⟨z, i, c, rp_str rw, hy, big_line hl, q, k _ H (Same.refl H) (Rp.str _)⟩)
      · cases e
    · rename_i xs
      cases q : L2.atI xs i with
      | none => rw [q] at e; cases e
      | some c =>
        rw [q] at e
        cases e
        obtain ⟨a, vs, e1, e2, e3⟩ := itemsT_ok rw (ws := xs.map .d) rfl
        obtain ⟨v, e4, e5⟩ := e3.atI (i := i) (w := .d c) (by rw [atI_map, q]; rfl)
        exact .inr (.inl ⟨a, vs, i, v, e1, hy, hK ▸ e2, e4, k v H (Same.refl H) e5⟩)
    · rename_i xs
      cases q : L2.atI xs i with
      | none => rw [q] at e; cases e
      | some c =>
        rw [q] at e
        cases e
        exact .inl (lst (ws := xs.map .d) rfl hy (by rw [atI_map, q]; rfl))
    · rename_i n
      cases q : itemsO os[n]? with
      | none => rw [q] at e; cases e
      | some ws =>
        rw [q] at e
        exact .inl (lst (ws := ws) q hy e)
    · cases e
  · cases e
/-! ### len -/
def gLen (os : List Ob) : List W → Option W
  | [.d (.str z)] => if z.length ≤ big then some (.d (.int z.length)) else none
  | [.d (.tuple xs)] => some (.d (.int xs.length))
  | [.d (.list xs)] => some (.d (.int xs.length))
  | [.obj n] => (itemsO os[n]?).map fun ws => .d (.int ws.length)
  | _ => none
theorem len_ok {X : Cx} {B : Bs} (hK : X.K = B.g.K) : CallR X (.builtin "len") (rFn B gLen) := CallR.imp (call_len_seq.or call_len_str) fun xs H Q ⟨L, os, ws, r, R, rw, e, k⟩ => by
  unfold gLen at e
  split at e
  · rename_i z
    split at e
    · rename_i hl
      cases e
      cases rw with
      | cons r1 t =>
        cases t
        have e1 := rp_str r1
        subst e1
        exact .inr ⟨z, rfl, big_line hl, k _ H (Same.refl H) (Rp.int _)⟩
    · cases e
  · rename_i xs
    cases e
    cases rw with
    | cons r1 t =>
      cases t
      obtain ⟨a, vs, rfl, e2, e3⟩ := rp_tup r1
      exact .inl ⟨a, vs, rfl, .inr (hK ▸ e2), k _ H (Same.refl H) (by rw [e3.length]; exact Rp.int _)⟩
  · rename_i xs
    cases e
    cases rw with
    | cons r1 t =>
      cases t
      obtain ⟨a, vs, rfl, e2, e3⟩ := itemsL_ok R r1 (ws := xs.map .d) rfl
      exact .inl ⟨a, vs, rfl, .inl (.inl e2), k _ H (Same.refl H) (by rw [Paired.length e3, List.length_map]; exact Rp.int _)⟩
  · rename_i n
    cases q : itemsO os[n]? with
    | none => rw [q] at e; cases e
    | some us =>
      rw [q] at e
      cases e
      cases rw with
      | cons r1 t =>
        cases t
        obtain ⟨a, vs, rfl, e2, e3⟩ := itemsL_ok R r1 (ws := us) q
        exact .inl ⟨a, vs, rfl, .inl (.inl e2), k _ H (Same.refl H) (by rw [Paired.length e3]; exact Rp.int _)⟩
  · cases e
/-! ### isinstance with a class of Python's own -/
theorem tyx_ok {g : G} {Pv : Addr → Prop} {L : List Addr} {os : List Ob} {H : Hp} (R : HR g Pv L os H) {v : V} {w : W} {t : String} (r : RpW g Pv L os H v w) (h : tyW os w = some t) : TyX g.K H v (.type t) := by
  match w, r, h with
  | .d x, r, h =>
    have r : Rp g.P g.w g.K H _ v x := r
    cases r with
    | non => cases h; exact .base .non
    | bl b => cases h; exact .base (.bl b)
    | int i => cases h; exact .base (.int i)
    | str z => cases h; exact .base (.str z)
    | tup hs _ =>
      cases h
      rcases hs with (hs | ⟨o, hs⟩) | ⟨o, _, _, hs, hc, _⟩
      · exact .base (.tup hs)
      · exact .fTuple hs
      · exact .kTuple hs hc
    | lst hs _ _ =>
      cases h
      rcases hs with hs | ⟨o, hs⟩
      · exact .base (.lst hs)
      · exact .base (.frz hs)
    | dct hs _ _ _ _ =>
      cases h
      cases hs with
      | dK hs =>
        rcases hs with hs | ⟨o, hs⟩
        · exact .base (.dK hs)
        · exact .fDict hs
  | .obj n, r, h =>
    obtain ⟨a, e, rfl⟩ := r
    have h : tyO os[n]? = some t := h
    cases ho : os[n]? with
    | none => rw [ho] at h; cases h
    | some o =>
      rw [ho] at h
      cases R.ob n a o e ho with
      | lst hl rl => cases h; exact .base (.lst hl)
      | dead => cases h
      | dK => cases h
      | dN => cases h
      | ins => cases h
      | tab => cases h
  | .exc e, r, h => cases h
/-- is a value of the type t one of Python's own class c -/
def isT (c t : String) : Bool := t == c || (c == "int" && t == "bool")
def gIs (c : String) (os : List Ob) (w : W) : Option W := (tyW os w).map fun t => .d (.bool (isT c t))
theorem kit_all : ∀ t ∈ (["NoneType", "bool", "int", "str", "tuple", "list", "dict"] : List String), ∀ c ∈ (["bool", "int", "str", "tuple", "list", "dict"] : List String), kitB t c = some (isT c t) := by decide +kernel
theorem tyD_mem (x : PyData) : tyD x ∈ (["NoneType", "bool", "int", "str", "tuple", "list", "dict"] : List String) := by
  cases x <;> simp [tyD]
theorem tyW_mem {os : List Ob} {w : W} {t : String} (h : tyW os w = some t) : t ∈ (["NoneType", "bool", "int", "str", "tuple", "list", "dict"] : List String) := by
  match w, h with
  | .d x, h => cases h; exact tyD_mem x
  | .obj n, h =>
    have h : tyO os[n]? = some t := h
    cases ho : os[n]? with
    | none => rw [ho] at h; cases h
    | some o =>
      rw [ho] at h
      cases o with
      | lst => cases h; decide +kernel
      | dead => cases h
      | dct => cases h
      | dcn => cases h
      | ins => cases h
      | tab => cases h
  | .exc e, h => cases h
section
variable {X : Cx} {B : Bs} {e : Expr} {m : FM W} {p p2 pos : Pos}
theorem f_is {c : String} {n : Str} (hK : X.K = B.g.K) (hcl : c ∈ (["bool", "int", "str", "tuple", "list", "dict"] : List String)) (hm : X.mg "isinstance" = none) (hn : X.mg n = none) (hb : bootBuiltins n = some (.type c)) (he : PE X e (fE B m))
    (hg : Gl X "isinstance" := by rfl) (hg2 : Gl X n := by rfl) (d1 : n ≠ "__name__" := by decide) (d2 : (n == ("__debug__" : Str)) = false := by decide)
    (hs : starEach [e, .Name n p2] X.env = (false, eval e X.env) :: starEach [.Name n p2] X.env := by rfl) (hs2 : starEach [.Name n p2] X.env = (false, eval (.Name n p2) X.env) :: starEach [] X.env := by rfl) (hpl : (backTo pos (starEach [.Name n p2] X.env)).any (·.1) = false := by rfl) :
    PE X (.Call (.Name "isinstance" p) [e, .Name n p2] [] pos) (fE B (mOp1 (gIs c) m)) :=
  PE.imp (pe_callB call_isi hg hm (by decide +kernel) (pa_cons he (pa_cons (pe_bltn (v := .ty c) hg2 hn hb rfl d1 d2) pa_nil hs2) hs) (by decide) (by decide) hs hpl) fun σ H Q h => by
    have z := fE.op1 h
    obtain ⟨L, s, o, R, e, k⟩ := z
    refine ⟨L, s, o, R, e, ?_⟩
    cases o with
    | ex x s1 => exact k
    | ok w s1 =>
      refine fun v H1 L1 R1 r1 g1 => ?_
      obtain ⟨L2, os, w2, r, R2, rw2, e2, k2⟩ := k v H1 L1 R1 r1 g1
      unfold gIs at e2
      cases ht : tyW os w2 with
      | none => rw [ht] at e2; cases e2
      | some t =>
        rw [ht] at e2
        cases e2
        exact ⟨v, .ty c, .type t, .type c, isT c t, rfl, .ty c, hK ▸ tyx_ok R2 rw2 ht, kit_ty (kit_all t (tyW_mem ht) c hcl), k2 _ H1 (Same.refl _) (Rp.bl _)⟩
end
end FL
namespace FL
open PySem PySem.Spec PyProof.Rows L2
section
variable {g : G} {Pv : Addr → Prop} {L : List Addr} {os : List Ob} {H : Hp}
/-! ### data as the layer's data -/
mutual
theorem Rp.dp {K : PySem.W.Frag} {P : Program} {w : World} {A : Addr → Prop} : ∀ (x : PyData) (v : V), x.canLay0 = true → Rp P w K H A v x → Dp K H v x
  | .none, _, _, h => by cases h; exact .non
  | .bool b, _, _, h => by cases h; exact .bl b
  | .int i, _, _, h => by cases h; exact .int i
  | .str i, _, _, h => by cases h; exact .str i
  | .tuple xs, _, c, h => by
    cases h with
    | tup h r => exact .tup h (RpAll.dp xs _ (by rw [PyData.canLay0] at c; exact c) r)
  | .list xs, _, c, h => by
    cases h with
    | lst h n r => exact .lst (.inl h) (RpAll.dp xs _ (by rw [PyData.canLay0] at c; exact c) r)
  | .dict kvs, _, c, _ => by rw [PyData.canLay0] at c; cases c
theorem RpAll.dp {K : PySem.W.Frag} {P : Program} {w : World} {A : Addr → Prop} : ∀ (xs : List PyData) (vs : List V), PyData.canLayAll0 xs = true → RpAll P w K H A vs xs → DpAll K H vs xs
  | [], _, _, h => by cases h; exact .nil
  | x :: xs, _, c, h => by
    rw [PyData.canLayAll0, Bool.and_eq_true] at c
    cases h with
    | cons h t => exact .cons (Rp.dp x _ c.1 h) (RpAll.dp xs _ c.2 t)
end
/-- a value's data; those of a list that is an object too -/
def dataW (os : List Ob) : W → Option PyData
  | .d x => some x
  | .obj n => ((itemsO os[n]?).bind datas).map .list
  | _ => none
theorem dataW_ok (R : HR g Pv L os H) {v : V} {w : W} {x : PyData} (r : RpW g Pv L os H v w) (h : dataW os w = some x) (c : x.canLay0 = true) : Dp g.K H v x := by
  match w, r, h with
  | .d y, r, h => cases h; exact Rp.dp _ _ c r
  | .obj n, r, h =>
    have h : ((itemsO os[n]?).bind datas).map PyData.list = some x := h
    cases q : itemsO os[n]? with
    | none => rw [q] at h; cases h
    | some ws =>
      rw [q] at h
      have h : (datas ws).map PyData.list = some x := h
      cases q2 : datas ws with
      | none => rw [q2] at h; cases h
      | some xs =>
        rw [q2] at h
        cases h
        obtain ⟨a, vs, rfl, e2, e3⟩ := itemsL_ok R r (ws := ws) q
        exact .lst (.inl e2) (RpAll.dp _ _ (by rw [PyData.canLay0] at c; exact c) (datas_rp e3 q2))
def scalD : PyData → PyData → Bool
  | .none, .none => true | .none, .int _ => true | .int _, .none => true | .none, .bool _ => true | .bool _, .none => true | .none, .str _ => true | .str _, .none => true
  | .int _, .int _ => true | .bool _, .bool _ => true | .str _, .str _ => true
  | .int _, .str _ => true | .str _, .int _ => true | .bool _, .str _ => true | .str _, .bool _ => true
  | _, _ => false
theorem scal_ok {K : PySem.W.Frag} {P : Program} {w : World} {A : Addr → Prop} {x y : PyData} {v u : V} (h : scalD x y = true) (r : Rp P w K H A v x) (q : Rp P w K H A u y) : scal v u = true ∧ decide (v = u) = PyData.eqv x y := by
  cases r <;> cases q <;> first
    | (exfalso; revert h; simp [scalD]; done)
    | (refine ⟨rfl, ?_⟩; rw [PyData.eqv]; first | rfl | exact decide_eq_false (fun z => nomatch z) | exact dec_int | exact dec_bl | exact dec_str)
end
/-! ### ==, != -/
def eqOk (x y : PyData) : Bool := scalD x y || (SeqAt.shaped x && SeqAt.shaped y)
def gEq (os : List Ob) (w u : W) : Option W := match dataW os w, dataW os u with
  | some x, some y => if eqOk x y = true then some (.d (.bool (PyData.eqv x y))) else none
  | _, _ => none
def gNe (os : List Ob) (w u : W) : Option W := match dataW os w, dataW os u with
  | some x, some y => if eqOk x y = true then some (.d (.bool (!PyData.eqv x y))) else none
  | _, _ => none
theorem scal_dataW {g : G} {Pv : Addr → Prop} {L : List Addr} {os : List Ob} {H : Hp} {v : V} {w : W} {x : PyData} (r : RpW g Pv L os H v w) (h : dataW os w = some x) (n : ∀ xs, x ≠ .list xs) : Rp g.P g.w g.K H (fun a => live L os a ∨ Pv a) v x := by
  match w, r, h with
  | .d y, r, h => cases h; exact r
  | .obj k, r, h =>
    have h : ((itemsO os[k]?).bind datas).map PyData.list = some x := h
    cases q : (itemsO os[k]?).bind datas with
    | none => rw [q] at h; cases h
    | some xs => rw [q] at h; cases h; exact absurd rfl (n xs)
theorem scalD_nl {x y : PyData} (h : scalD x y = true) : (∀ xs, x ≠ .list xs) ∧ ∀ xs, y ≠ .list xs := by
  constructor
  · rintro xs rfl
    cases y <;> cases h
  · rintro xs rfl
    cases x <;> cases h
theorem eq_ok {X : Cx} {B : Bs} (hK : X.K = B.g.K) (hu : X.A.units + 64 < cLine) : OpR X (compareOp .Eq) (rF2 B gEq) := OpR.imp (op_eq.or (op_eqD hu)) fun x y H Q ⟨L, os, w, u, r, R, rw_, ru, e, k⟩ => by
  unfold gEq at e
  split at e
  · rename_i a b ha hb
    split at e
    · rename_i ho
      cases e
      rcases Bool.or_eq_true_iff.mp ho with h | h
      · obtain ⟨n1, n2⟩ := scalD_nl h
        obtain ⟨h1, h2⟩ := scal_ok h (scal_dataW rw_ ha n1) (scal_dataW ru hb n2)
        refine .inl ⟨h1, ?_⟩
        rw [h2]
        exact k _ H (Same.refl H) (Rp.bl _)
      · obtain ⟨s1, s2⟩ := Bool.and_eq_true_iff.mp h
        exact .inr ⟨a, b, hK ▸ dataW_ok R rw_ ha (SeqAt.canLay_of_shaped s1), hK ▸ dataW_ok R ru hb (SeqAt.canLay_of_shaped s2), s1, s2, k _ H (Same.refl H) (Rp.bl _)⟩
    · cases e
  · cases e
theorem ne_ok {X : Cx} {B : Bs} (hK : X.K = B.g.K) (hu : X.A.units + 64 < cLine) : OpR X (compareOp .NotEq) (rF2 B gNe) := OpR.imp (op_ne.or (op_neD hu)) fun x y H Q ⟨L, os, w, u, r, R, rw_, ru, e, k⟩ => by
  unfold gNe at e
  split at e
  · rename_i a b ha hb
    split at e
    · rename_i ho
      cases e
      rcases Bool.or_eq_true_iff.mp ho with h | h
      · obtain ⟨n1, n2⟩ := scalD_nl h
        obtain ⟨h1, h2⟩ := scal_ok h (scal_dataW rw_ ha n1) (scal_dataW ru hb n2)
        refine .inl ⟨h1, ?_⟩
        rw [h2]
        exact k _ H (Same.refl H) (Rp.bl _)
      · obtain ⟨s1, s2⟩ := Bool.and_eq_true_iff.mp h
        exact .inr ⟨a, b, hK ▸ dataW_ok R rw_ ha (SeqAt.canLay_of_shaped s1), hK ▸ dataW_ok R ru hb (SeqAt.canLay_of_shaped s2), s1, s2, k _ H (Same.refl H) (Rp.bl _)⟩
    · cases e
  · cases e
/-! ### in, not in (lists, tuples; a text in a text) -/
def flatD : PyData → Bool
  | .none => true | .bool _ => true | .int _ => true | .str _ => true
  | _ => false
def inD (x : PyData) (ys : List PyData) : Bool := ys.any fun y => PyData.eqv y x
def inOk (x : PyData) (ys : List PyData) : Bool := flatD x && ys.all flatD
def seqOf (os : List Ob) : W → Option (List PyData)
  | .d (.list xs) => some xs
  | .d (.tuple xs) => some xs
  | .obj n => (itemsO os[n]?).bind datas
  | _ => none
theorem flat_ok {K : PySem.W.Frag} {P : Program} {w : World} {A : Addr → Prop} {H : Hp} {x : PyData} {v : V} (h : flatD x = true) (r : Rp P w K H A v x) : flatV v = true := by
  cases r <;> first | rfl | cases h
theorem eqV_ok {K : PySem.W.Frag} {P : Program} {w : World} {A : Addr → Prop} {H : Hp} {x y : PyData} {v u : V} (h : flatD x = true) (h' : flatD y = true) (r : Rp P w K H A v x) (q : Rp P w K H A u y) : eqV v u = PyData.eqv x y := by
  cases r <;> first | cases h; done | skip
  all_goals cases q <;> first | (cases h'; done) | (rw [PyData.eqv]; rfl)
theorem inV_ok {K : PySem.W.Frag} {P : Program} {w : World} {A : Addr → Prop} {H : Hp} {x : PyData} {v : V} (h : flatD x = true) (r : Rp P w K H A v x) : ∀ {ys : List PyData} {vs : List V}, ys.all flatD = true → RpAll P w K H A vs ys → vs.all flatV = true ∧ inV v vs = inD x ys
  | _, _, _, .nil => ⟨rfl, rfl⟩
  | y :: ys, u :: us, hf, .cons a b => by
    rw [List.all_cons, Bool.and_eq_true] at hf
    obtain ⟨i1, i2⟩ := inV_ok h r hf.2 b
    refine ⟨by rw [List.all_cons, flat_ok hf.1 a, i1]; rfl, ?_⟩
    unfold inV inD at i2 ⊢
    rw [List.any_cons, List.any_cons, i2, eqV_ok hf.1 h a r]
def inS (z y : Str) : Bool := !(Builtin.Str.occurrences y z 0 y.length 1).isEmpty
def isTupW : W → Bool
  | .d (.tuple _) => true
  | _ => false
def inStr : PyData → Str → Option Bool
  | .str z, y => some (inS z y)
  | _, _ => none
def inSeq (x : PyData) (tup : Bool) (ys : List PyData) : Option Bool := if inOk x ys = true then some (inD x ys) else if (SeqAt.shaped x && (SeqAt.shaped (.list ys) && !tup)) = true then some (inD x ys) else none
def inW (os : List Ob) (x : PyData) : W → Option Bool
  | .d (.str y) => inStr x y
  | u => (seqOf os u).bind (inSeq x (isTupW u))
def gIn (neg : Bool) (os : List Ob) (w u : W) : Option W := match w with
  | .d x => (inW os x u).map fun b => .d (.bool (neg != b))
  | _ => none
theorem in_core {g : G} {Pv : Addr → Prop} {L : List Addr} {os : List Ob} {H : Hp} (R : HR g Pv L os H) {v : V} {w : W} {ys : List PyData} (r : RpW g Pv L os H v w) (h : seqOf os w = some ys) : ∃ a vs, v = .ref a ∧ (SqL g.K H a vs ∨ (SqT g.K H a vs ∧ ∃ zs, w = .d (.tuple zs))) ∧ RpAll g.P g.w g.K H (fun a => live L os a ∨ Pv a) vs ys := by
  match w, r, h with
  | .d (.tuple xs), r, h =>
    cases h
    obtain ⟨a, vs, e, h, r⟩ := rp_tup r
    exact ⟨a, vs, e, .inr ⟨h, _, rfl⟩, r⟩
  | .d (.list xs), r, h =>
    cases h
    have r : Rp g.P g.w g.K H _ v (.list ys) := r
    cases r with
    | lst h n r => exact ⟨_, _, rfl, .inl (.inl h), r⟩
  | .obj n, r, h =>
    have h : (itemsO os[n]?).bind datas = some ys := h
    cases q : itemsO os[n]? with
    | none => rw [q] at h; cases h
    | some ws =>
      rw [q] at h
      obtain ⟨a, vs, rfl, e2, e3⟩ := itemsL_ok R r (ws := ws) q
      exact ⟨a, vs, rfl, .inl (.inl e2), datas_rp e3 h⟩
theorem inW_ok {g : G} {Pv : Addr → Prop} {L : List Addr} {os : List Ob} {H : Hp} (R : HR g Pv L os H) {v y : V} {x : PyData} {u : W} {b : Bool} (rw_ : RpW g Pv L os H v (.d x)) (ru : RpW g Pv L os H y u) (h : inW os x u = some b) :
    (∃ z t, v = .str z ∧ y = .str t ∧ b = inS z t) ∨ ∃ a vs ys, y = .ref a ∧ b = inD x ys ∧ ((((SqL g.K H a vs ∨ SqT g.K H a vs) ∧ flatV v = true ∧ vs.all flatV = true ∧ inV v vs = inD x ys)) ∨ (Dp g.K H v x ∧ Dp g.K H y (.list ys) ∧ SeqAt.shaped x = true ∧ SeqAt.shaped (.list ys) = true)) := by
  have seq : (seqOf os u).bind (inSeq x (isTupW u)) = some b → ∃ a vs ys, y = .ref a ∧ b = inD x ys ∧ ((((SqL g.K H a vs ∨ SqT g.K H a vs) ∧ flatV v = true ∧ vs.all flatV = true ∧ inV v vs = inD x ys)) ∨ (Dp g.K H v x ∧ Dp g.K H y (.list ys) ∧ SeqAt.shaped x = true ∧ SeqAt.shaped (.list ys) = true)) := fun h => by
    cases q : seqOf os u with
    | none => rw [q] at h; cases h
    | some ys =>
      rw [q] at h
      have h : inSeq x (isTupW u) ys = some b := h
      obtain ⟨a, vs, e1, e2, e3⟩ := in_core R ru q
      unfold inSeq at h
      split at h
      · rename_i ho
        cases h
        obtain ⟨h1, h2⟩ := Bool.and_eq_true_iff.mp ho
        obtain ⟨i1, i2⟩ := inV_ok h1 rw_ h2 e3
        exact ⟨a, vs, ys, e1, rfl, .inl ⟨e2.imp id fun z => z.1, flat_ok h1 rw_, i1, i2⟩⟩
      · split at h
        · rename_i ho
          cases h
          obtain ⟨h1, h2⟩ := Bool.and_eq_true_iff.mp ho
          obtain ⟨h2, h3⟩ := Bool.and_eq_true_iff.mp h2
          rcases e2 with e2 | ⟨_, zs, e2⟩
          · exact ⟨a, vs, ys, e1, rfl, .inr ⟨Rp.dp _ _ (SeqAt.canLay_of_shaped h1) rw_, by rw [e1]; exact .lst e2 (RpAll.dp _ _ (by have := SeqAt.canLay_of_shaped h2; rw [PyData.canLay0] at this; exact this) e3), h1, h2⟩⟩
          · rw [e2] at h3; cases h3
        · cases h
  match u, ru, h, seq with
  | .d (.str t), ru, h, _ =>
    have h : inStr x t = some b := h
    unfold inStr at h
    split at h
    · cases h
      exact .inl ⟨_, _, rp_str rw_, rp_str ru, rfl⟩
    · cases h
  | .d (.list _), ru, h, seq => exact .inr (seq h)
  | .d (.tuple _), ru, h, seq => exact .inr (seq h)
  | .obj n, ru, h, seq => exact .inr (seq h)
theorem in_ok {X : Cx} {B : Bs} (hK : X.K = B.g.K) (hu : X.A.units + 65 < cLine) : OpR X (compareOp .In) (rF2 B (gIn false)) := OpR.imp (op_in_seq.or ((op_inD hu).or op_in_str)) fun x y H Q ⟨L, os, w, u, r, R, rw_, ru, e, k⟩ => by
  match w, rw_, e with
  | .d x', rw_, e =>
    have e : (inW os x' u).map (fun b => W.d (.bool (false != b))) = some r := e
    cases q : inW os x' u with
    | none => rw [q] at e; cases e
    | some b =>
      rw [q] at e
      cases e
      have fb : (false != b) = b := by cases b <;> rfl
      rcases inW_ok R rw_ ru q with ⟨z, t, rfl, rfl, rfl⟩ | ⟨a, vs, ys, rfl, rfl, ⟨h1, h2, h3, h4⟩ | ⟨h1, h2, h3, h4⟩⟩
      · exact .inr (.inr ⟨z, t, rfl, rfl, k _ H (Same.refl H) (by dsimp only; rw [fb]; exact Rp.bl _)⟩)
      · refine .inl ⟨a, vs, rfl, by rw [hK]; exact h1, h2, h3, ?_⟩
        rw [if_neg (by decide), h4]
        exact k _ H (Same.refl H) (by dsimp only; rw [fb]; exact Rp.bl _)
      · exact .inr (.inl ⟨x', ys, hK ▸ h1, hK ▸ h2, h3, h4, k _ H (Same.refl H) (by dsimp only; rw [fb]; exact Rp.bl _)⟩)
theorem notIn_ok {X : Cx} {B : Bs} (hK : X.K = B.g.K) (hu : X.A.units + 65 < cLine) : OpR X (compareOp .NotIn) (rF2 B (gIn true)) := OpR.imp (op_notIn_seq.or ((op_notInD hu).or op_notin_str)) fun x y H Q ⟨L, os, w, u, r, R, rw_, ru, e, k⟩ => by
  match w, rw_, e with
  | .d x', rw_, e =>
    have e : (inW os x' u).map (fun b => W.d (.bool (true != b))) = some r := e
    cases q : inW os x' u with
    | none => rw [q] at e; cases e
    | some b =>
      rw [q] at e
      cases e
      have fb : (true != b) = !b := by cases b <;> rfl
      rcases inW_ok R rw_ ru q with ⟨z, t, rfl, rfl, rfl⟩ | ⟨a, vs, ys, rfl, rfl, ⟨h1, h2, h3, h4⟩ | ⟨h1, h2, h3, h4⟩⟩
      · exact .inr (.inr ⟨z, t, rfl, rfl, k _ H (Same.refl H) (by dsimp only; rw [fb]; exact Rp.bl _)⟩)
      · refine .inl ⟨a, vs, rfl, by rw [hK]; exact h1, h2, h3, ?_⟩
        rw [if_pos rfl, h4]
        exact k _ H (Same.refl H) (by dsimp only; rw [fb]; exact Rp.bl _)
      · exact .inr (.inl ⟨x', ys, hK ▸ h1, hK ▸ h2, h3, h4, k _ H (Same.refl H) (by dsimp only; rw [fb]; exact Rp.bl _)⟩)
end FL
namespace Fr
open PySem PySem.Spec PyProof.Rows L2 HT
/-! ### t[::-1] of a tuple: always a new one -/
section
variable {prog : Program} {w : World} {A : Around} {E : Value → Shared → Prop} {s : Shared}
theorem sliceApplied_rev {sl : Addr} {vs : Value} {n : Nat} {Q : Int × Int × Nat → Shared → Prop} (hs : s.heap.IsSliceOf sl .none .none vs) (ps : IsPart vs (some (-1)))
    (h : Q ((n : Int) - 1, -1, n) s) : wpAny (model prog w) A (Builtin.Slice.sliceApplied (.ref sl) (pure (n : Int))) Q E s := by
  obtain ⟨os, hos, hcs, hds⟩ := id hs
  unfold Builtin.Slice.sliceApplied Builtin.Slice.sliceFields
  refine wpAny_bind (wpAny_bind (wpAny_field hos hds (x := .none) rfl (wpAny_bind (wpAny_field hos hds (x := .none) rfl (wpAny_bind (wpAny_field hos hds (x := vs) rfl (wpAny_pure ?_)))))))
  refine wpAny_bind (slicePart_ ps ?_)
  show wpAny _ _ (if ((-1 : Int) == 0) = true then _ else _) _ _ s
  rw [if_neg (by decide)]
  refine wpAny_bind (slicePart_none (wpAny_bind (slicePart_none (wpAny_bind (wpAny_pure ?_)))))
  have e1 : Builtin.Slice.sliceAdjust none none (-1) (n : Int) = ((n : Int) - 1, -1) := by
    unfold Builtin.Slice.sliceAdjust
    simp
  have e2 : Builtin.Slice.slicePlaces ((n : Int) - 1) (-1) (-1) = n := by
    unfold Builtin.Slice.slicePlaces
    have h1 : ¬ ((-1 : Int) > 0) := by decide
    rw [if_neg h1]
    by_cases q : (n : Int) - 1 > -1
    · rw [if_pos q, show (- -1 : Int) = 1 by decide, Int.ediv_one]
      omega
    · rw [if_neg q]
      omega
  show wpAny _ _ (match Builtin.Slice.sliceAdjust none none (-1) (n : Int) with | (lo, hi) => pure (lo, (-1 : Int), Builtin.Slice.slicePlaces lo hi (-1))) _ _ s
  rw [e1]
  show wpAny _ _ (pure (((n : Int) - 1), (-1 : Int), Builtin.Slice.slicePlaces ((n : Int) - 1) (-1) (-1))) _ _ s
  rw [e2]
  exact wpAny_pure h
theorem pick_rev (xs : Array Value) : ((List.range xs.size).filterMap fun (m : Nat) => xs[((xs.size : Int) - 1 + (m : Int) * (-1)).toNat]?).toArray = xs.toList.reverse.toArray := by
  have e : (List.range xs.size).filterMap (fun (m : Nat) => xs[((xs.size : Int) - 1 + (m : Int) * (-1)).toNat]?) = ((List.range xs.size).map fun k => xs.size - 1 - k).filterMap (xs[·]?) := by
    rw [List.filterMap_map]
    congr 1
    funext m
    have : ((xs.size : Int) - 1 + (m : Int) * (-1)).toNat = xs.size - 1 - m := by omega
    rw [this]
    rfl
  have e2 := PySem.W.krv_pick xs
  unfold slicePick at e2
  rw [PySem.W.krv_bounds] at e2
  have e3 : ((sliceRange ((xs.size : Int) - 1) (-1) (-1)).filterMap (xs[·]?)).toArray = xs.toList.reverse.toArray := e2
  rw [PySem.W.krv_sliceRange] at e3
  rw [e, e3]
theorem getItem_tuple_rev {t sl : Addr} {items : Array Value} {vs : Value} {Q : Value → Shared → Prop} (ht : IsTup s.heap t items) (hs : s.heap.IsSliceOf sl .none .none vs) (ps : IsPart vs (some (-1)))
    (h : Q (.ref s.heap.objs.size) { s with heap := s.heap.push { cls := .type "tuple", data := .seq items.toList.reverse.toArray } })
    (hsz : items.size ≤ sizeLine) : wpAny (model prog w) A (getItem (.ref t) (.ref sl)) Q E s := by
  have htake : sizeOk (.seq items.toList.reverse.toArray) := by
    show items.toList.reverse.toArray.size ≤ sizeLine
    rw [List.size_toArray, List.length_reverse, Array.length_toList]
    omega
  obtain ⟨os, hos, hcs, hds⟩ := id hs
  have hTs : s.TypeIs (.ref sl) "slice" := ⟨os, hos, hcs⟩
  unfold getItem
  try with_reducible refine wpAny_holding ?_
  first | refine wpAny_bind (wpAny_pure ?_) | skip
  refine wpAny_bind (wpAny_sequenceKey ht.typeIs (by decide) ?_)
  refine wpAny_bind (wpAny_callSpecial?_slot (name := Str.ofString "__getitem__") ht.typeIs PyProof.Rows.slot_tuple_getitem
    (wpAny_call_entry PyProof.Rows.slot_tuple_getitem ht.typeIs entry_tuple_getitem ?_ (args_tuple_getitem _ _)))
  show wpAny _ _ (Builtin.Tuple.tupleItemsOf (.ref t) >>= _) _ _ s
  refine wpAny_bind (tupleItemsOf_ ht ?_)
  refine wpAny_bind (wpAny_typeOf hTs ?_)
  rw [if_pos (by decide)]
  refine wpAny_bind (sliceApplied_rev hs ps ?_)
  have hno : ¬ ((((items.size : Int) - 1) == 0 && (-1 : Int) == 1 && items.size == items.size) = true) := by
    rw [show ((-1 : Int) == 1) = false by decide, Bool.and_false, Bool.false_and]
    exact Bool.false_ne_true
  show wpAny _ _ (if (((items.size : Int) - 1) == 0 && (-1 : Int) == 1 && items.size == items.size) = true then _ else _) _ _ s
  rw [if_neg hno, pick_rev]
  first
    | exact wpAny_bind (m := Builtin.Tuple.tupleExact _) (wpAny_newObj_type (wpAny_pure ⟨_, rfl, wpAny_pure h⟩) htake)
    | exact wpAny_bind (m := Builtin.Tuple.tupleExact _) (wpAny_newObj_type (wpAny_bind (wpAny_pure (wpAny_pure ⟨_, rfl, wpAny_pure h⟩))) htake)
    | exact wpAny_bind (wpAny_bind (m := Builtin.Tuple.tupleExact _) (wpAny_newObj_type (wpAny_pure (wpAny_pure ⟨_, rfl, wpAny_pure h⟩)) htake))
    | exact wpAny_bind (wpAny_bind (m := Builtin.Tuple.tupleExact _) (wpAny_newObj_type (wpAny_pure ⟨_, rfl, wpAny_pure h⟩) htake))
end
def tRevT (K : PySem.W.Frag) (te : TE) : TE := fun σ H Q => te σ H fun x H1 => ∃ a xs, x = .ref a ∧ SqT K H1 a xs ∧ ∀ p, H1 p = none → Q (.ref p) (upd H1 p (.tup xs.reverse))
theorem pe_revT {X : Cx} {e : Expr} {te : TE} {k : Nat} {p1 p2 p3 pos : Pos} (he : PE X e te) : PE X (.Subscript e (.Slice none none (some (.UnaryOp .USub (.Constant (.int 1) k p1) p2)) p3) pos) (tRevT X.K te) := by
  refine ⟨fun pins s σ H Q I h => ?_⟩
  refine Subscript_ (thn (he.run pins s σ H _ I h) fun v s1 ⟨x, H1, I1, r1, q1⟩ => ?_)
  obtain ⟨a, xs, ex, hx, q⟩ := q1
  subst ex
  cases r1
  have hst : PO X (some (.UnaryOp .USub (.Constant (.int 1) k p1) p2)) (tPart (tUn (rU fun i => .int (-i)) (tC (.int 1)))) := po_some (pe_un un_neg pe_int)
  refine wpAny_Slice (thn (po_none.run pins s1 σ H1 (fun o H2 => o = none ∧ H2 = H1) I1 ⟨rfl, rfl⟩) fun vl s2 ⟨l, H2, I2, pl, el, e2⟩ => ?_)
  subst el e2
  refine thn (po_none.run pins s2 σ H2 (fun o H3 => o = none ∧ H3 = H2) I2 ⟨rfl, rfl⟩) fun vu s3 ⟨u, H3, I3, pu, eu, e3⟩ => ?_
  subst eu e3
  refine thn (hst.run pins s3 σ H3 (fun o H4 => o = some (-1) ∧ H4 = H3) I3 ⟨1, rfl, -1, rfl, rfl, rfl⟩) fun vs s4 ⟨o, H4, I4, ps, eo, e4⟩ => ?_
  subst eo e4
  cases pl
  cases pu
  have I5 : Inv X pins σ H4 { s4 with heap := s4.heap.push { cls := .type "slice", data := .fields #[.none, .none, vs] } } := I4.kept (t' := s4.toks) fun b ob q => Heap.get?_push_of_some _ q
  obtain ⟨its, r, ht, hz⟩ := I5.tuple hx
  have hlen := r.length
  show wpAny (model X.prog X.w) X.A (subscriptTail e (.Slice none none (some (.UnaryOp .USub (.Constant (.int 1) k p1) p2)) p3) (.ref a) (.ref s4.heap.objs.size)) (EP X pins σ Q) X.xe { s4 with heap := s4.heap.push { cls := .type "slice", data := .fields #[.none, .none, vs] } }
  refine tail_any (ops := [.ref a, .ref s4.heap.objs.size]) ht.typeIs (PyProof.Rows.slot_tuple_getitem.lookup) ?_ (by with_unfolding_all rfl)
  refine getItem_tuple_rev ht (Heap.IsSliceOf.new _ .none .none vs) ps ?_ (by rw [List.size_toArray]; omega)
  refine ⟨.ref _, _, I5.laid (t' := s4.toks) (o := .tup xs.reverse) (fun b ob q => Heap.get?_push_of_some _ q) (Nat.le_refl _) ?_, rfl, q _ (I5.hok.fresh (Nat.le_refl _))⟩
  exact ⟨by rw [List.length_reverse]; exact hz, _, r.reverse, IsTup.new _ _⟩
end Fr
namespace FL
open PySem PySem.Spec PyProof.Rows L2
/-! ### is -/
def gIsN (neg : Bool) (os : List Ob) (w u : W) : Option W := match u with
  | .d .none => match w with
    | .d .none => some (.d (.bool (!neg)))
    | _ => some (.d (.bool neg))
  | .d (.bool b) => match w with
    | .d (.bool a) => some (.d (.bool (neg != decide (a = b))))
    | _ => none
  | _ => none
theorem rp_bool {g : G} {Pv : Addr → Prop} {L : List Addr} {os : List Ob} {H : Hp} {v : V} {b : Bool} (r : RpW g Pv L os H v (.d (.bool b))) : v = .bl b := r.bool
theorem rp_notnon {g : G} {Pv : Addr → Prop} {L : List Addr} {os : List Ob} {H : Hp} {v : V} {w : W} (r : RpW g Pv L os H v w) (n : w ≠ .d .none) : v ≠ .non := fun z => by
  subst z
  match w, r with
  | .d x, r =>
    have r : Rp g.P g.w g.K H _ .non x := r
    cases r
    exact n rfl
  | .obj k, ⟨a, _, e1⟩ => cases e1
  | .exc _, ⟨a, cls, d, e1, _⟩ => cases e1
theorem is_ok {X : Cx} {B : Bs} : OpR X (compareOp .Is) (rF2 B (gIsN false)) := OpR.imp (op_isN.or op_is_bl) fun x y H Q ⟨L, os, w, u, r, R, rw_, ru, e, k⟩ => by
  unfold gIsN at e
  split at e
  · have hy := rp_non ru
    split at e
    · cases e
      refine .inl ⟨hy, ?_⟩
      rw [rp_non rw_]
      exact k _ H (Same.refl H) (Rp.bl _)
    · rename_i hn
      cases e
      refine .inl ⟨hy, ?_⟩
      rw [decide_eq_false (rp_notnon rw_ hn)]
      exact k _ H (Same.refl H) (Rp.bl _)
  · rename_i b
    split at e
    · rename_i a
      cases e
      refine .inr ⟨a, b, rp_bool rw_, rp_bool ru, k _ H (Same.refl H) ?_⟩
      have fb : (false != decide (a = b)) = decide (a = b) := by cases decide (a = b) <;> rfl
      rw [fb]
      exact Rp.bl _
    · cases e
  · cases e
theorem isNot_ok {X : Cx} {B : Bs} : OpR X (compareOp .IsNot) (rF2 B (gIsN true)) := OpR.imp (op_notN.or op_isnot_bl) fun x y H Q ⟨L, os, w, u, r, R, rw_, ru, e, k⟩ => by
  unfold gIsN at e
  split at e
  · have hy := rp_non ru
    split at e
    · cases e
      refine .inl ⟨hy, ?_⟩
      rw [rp_non rw_]
      exact k _ H (Same.refl H) (Rp.bl _)
    · rename_i hn
      cases e
      refine .inl ⟨hy, ?_⟩
      rw [decide_eq_false (rp_notnon rw_ hn)]
      exact k _ H (Same.refl H) (Rp.bl _)
  · rename_i b
    split at e
    · rename_i a
      cases e
      refine .inr ⟨a, b, rp_bool rw_, rp_bool ru, k _ H (Same.refl H) ?_⟩
      have fb : (true != decide (a = b)) = !decide (a = b) := by cases decide (a = b) <;> rfl
      rw [fb]
      exact Rp.bl _
    · cases e
  · cases e
/-! ### numbers -/
def gII (f : Int → Int → Option PyData) (os : List Ob) (w u : W) : Option W := match w, u with
  | .d (.int i), .d (.int j) => (f i j).map .d
  | _, _ => none
theorem gII_ok {B : Bs} {f : Int → Int → Option PyData} {x y : V} {H : Hp} {Q : VK} (h : rF2 B (gII f) x y H Q) : ∃ i j z, x = .int i ∧ y = .int j ∧ f i j = some z ∧ ∀ v, (∀ H A, Rp B.g.P B.g.w B.g.K H A v z) → Q v H := by
  obtain ⟨L, os, w, u, r, R, rw_, ru, e, k⟩ := h
  unfold gII at e
  split at e
  · rename_i i j
    cases q : f i j with
    | none => rw [q] at e; cases e
    | some z =>
      rw [q] at e
      cases e
      exact ⟨i, j, z, rpW_int rw_, rpW_int ru, q, fun v hv => k v H (Same.refl H) (hv _ _)⟩
  · cases e
def gLt : List Ob → W → W → Option W := gII fun i j => some (.bool (decide (i < j)))
def gLe : List Ob → W → W → Option W := gII fun i j => some (.bool (decide (i ≤ j)))
def gGt : List Ob → W → W → Option W := gII fun i j => some (.bool (decide (j < i)))
def gGe : List Ob → W → W → Option W := gII fun i j => some (.bool (decide (j ≤ i)))
def gMinus : List Ob → W → W → Option W := gII fun i j => some (.int (i - j))
def gMul : List Ob → W → W → Option W := gII fun i j => if (-(2 ^ 64) < i ∧ i < 2 ^ 64) ∨ (-(2 ^ 64) < j ∧ j < 2 ^ 64) then some (.int (i * j)) else none
def gMod : List Ob → W → W → Option W := gII fun i j => if 0 < j then some (.int (i % j)) else none
def gDiv : List Ob → W → W → Option W := gII fun i j => if 0 < j ∧ j < 1073741824 then some (.int (i / j)) else none
def gPow : List Ob → W → W → Option W := gII fun i j => if 0 ≤ j ∧ j ≤ 1000000 ∧ i.natAbs < 2 ^ 64 then some (.int (i ^ j.toNat)) else none
section
variable {X : Cx} {B : Bs}
theorem lt_ok : OpR X (compareOp .Lt) (rF2 B gLt) := OpR.imp op_lt fun x y H Q h => by
  obtain ⟨i, j, z, e1, e2, e3, k⟩ := gII_ok h
  cases e3
  exact ⟨i, j, e1, e2, k _ fun _ _ => .bl _⟩
theorem le_ok : OpR X (compareOp .LtE) (rF2 B gLe) := OpR.imp op_le fun x y H Q h => by
  obtain ⟨i, j, z, e1, e2, e3, k⟩ := gII_ok h
  cases e3
  exact ⟨i, j, e1, e2, k _ fun _ _ => .bl _⟩
theorem gt_ok : OpR X (compareOp .Gt) (rF2 B gGt) := OpR.imp op_gt fun x y H Q h => by
  obtain ⟨i, j, z, e1, e2, e3, k⟩ := gII_ok h
  cases e3
  exact ⟨i, j, e1, e2, k _ fun _ _ => .bl _⟩
theorem ge_ok : OpR X (compareOp .GtE) (rF2 B gGe) := OpR.imp op_ge fun x y H Q h => by
  obtain ⟨i, j, z, e1, e2, e3, k⟩ := gII_ok h
  cases e3
  exact ⟨i, j, e1, e2, k _ fun _ _ => .bl _⟩
theorem sub_ok : OpR X (binaryOp .Sub) (rF2 B gMinus) := OpR.imp op_sub fun x y H Q h => by
  obtain ⟨i, j, z, e1, e2, e3, k⟩ := gII_ok h
  cases e3
  exact ⟨i, j, e1, e2, k _ fun _ _ => .int _⟩
theorem mul_ok : OpR X (binaryOp .Mult) (rF2 B gMul) := OpR.imp op_mul fun x y H Q h => by
  obtain ⟨i, j, z, e1, e2, e3, k⟩ := gII_ok h
  split at e3
  · rename_i c
    cases e3
    exact ⟨i, j, e1, e2, c, k _ fun _ _ => .int _⟩
  · cases e3
theorem mod_ok : OpR X (binaryOp .Mod) (rF2 B gMod) := OpR.imp op_mod fun x y H Q h => by
  obtain ⟨i, j, z, e1, e2, e3, k⟩ := gII_ok h
  split at e3
  · rename_i c
    cases e3
    exact ⟨i, j, e1, e2, c, k _ fun _ _ => .int _⟩
  · cases e3
theorem div_ok : OpR X (binaryOp .FloorDiv) (rF2 B gDiv) := OpR.imp op_fdiv fun x y H Q h => by
  obtain ⟨i, j, z, e1, e2, e3, k⟩ := gII_ok h
  split at e3
  · rename_i c
    cases e3
    exact ⟨i, j, e1, e2, c, k _ fun _ _ => .int _⟩
  · cases e3
theorem pow_ok : OpR X (binaryOp .Pow) (rF2 B gPow) := OpR.imp op_pow fun x y H Q h => by
  obtain ⟨i, j, z, e1, e2, e3, k⟩ := gII_ok h
  split at e3
  · rename_i c
    cases e3
    exact ⟨i, j, e1, e2, c, k _ fun _ _ => .int _⟩
  · cases e3
end
/-- a + b of two lists, also of locked ones -/
def rCatR : R2 := fun x y H Q => ∃ l b xs zs, x = .ref l ∧ y = .ref b ∧ Rd H l (.lst xs) ∧ Rd H b (.lst zs) ∧ xs.length + zs.length ≤ sizeLine ∧ ∀ p, H p = none → Q (.ref p) (upd H p (.lst (xs ++ zs)))
theorem op_catR {X : Cx} : OpR X (binaryOp .Add) rCatR := fun pins s σ H x y v u Q I rx ry h => by
  obtain ⟨l, b, xs, zs, e1, e2, hH, hB, hz, q⟩ := h
  subst e1
  subst e2
  cases rx
  cases ry
  obtain ⟨_, i1, n1, r1, g1⟩ := hH.ok I.hok
  obtain ⟨_, i2, n2, r2, g2⟩ := hB.ok I.hok
  have h1 := r1.length
  have h2 := r2.length
  have ea : i1.toArray ++ i2.toArray = (i1 ++ i2).toArray := by simp
  refine PySem.P.add_list g1 g2 ?_ (by simp only [List.size_toArray]; omega)
  rw [ea]
  have hl : (xs ++ zs).length ≤ sizeLine := by rw [List.length_append]; exact hz
  exact ⟨.ref _, _, I.lnew (t' := s.toks) (r1.append r2) hl, rfl, q _ I.fresh⟩
/-! ### + -/
def gAdd (os : List Ob) (w u : W) : Option W := match w, u with
  | .d (.int i), .d (.int j) => some (.d (.int (i + j)))
  | .d (.str i), .d (.str j) => if i.length + j.length ≤ big then some (.d (.str (i ++ j))) else none
  | .d (.tuple xs), .d (.tuple ys) => if xs.length + ys.length ≤ big then some (.d (.tuple (xs ++ ys))) else none
  | w, u => match (itemsL os w).bind datas, (itemsL os u).bind datas with
    | some xs, some ys => if xs.length + ys.length ≤ big then some (.d (.list (xs ++ ys))) else none
    | _, _ => none
theorem add_ok {X : Cx} {B : Bs} (hK : X.K = B.g.K) : OpR X (binaryOp .Add) (rF2 B gAdd) := OpR.imp (op_add.or (op_add_str.or (op_catA.or op_catR))) fun x y H Q ⟨L, os, w, u, r, R, rw_, ru, e, k⟩ => by
  unfold gAdd at e
  split at e
  · cases e
    exact .inl ⟨_, _, rpW_int rw_, rpW_int ru, k _ H (Same.refl H) (Rp.int _)⟩
  · split at e
    · rename_i hl
      cases e
      exact .inr (.inl ⟨_, _, rp_str rw_, rp_str ru, big_line hl, k _ H (Same.refl H) (Rp.str _)⟩)
    · cases e
  · rename_i xs ys
    split at e
    · rename_i hl
      cases e
      obtain ⟨a, vs, e1, e2, e3⟩ := rp_tup rw_
      obtain ⟨b, us, e4, e5, e6⟩ := rp_tup ru
      have hz : vs.length + us.length ≤ sizeLine := by rw [e3.length, e6.length]; exact big_line hl
      have all := RpAll.append e3 e6
      refine .inr (.inr (.inl ⟨a, b, vs, us, e1, e4, hK ▸ e2, hK ▸ e5, hz, fun hn => ?_, fun _ hn => ?_, fun _ _ p hp => ?_⟩))
      · subst hn
        exact k _ H (Same.refl H) (.tup e5 all)
      · subst hn
        rw [List.append_nil] at all
        exact k _ H (Same.refl H) (.tup e2 all)
      · exact k _ _ (new_same hp) (.tup (.inl (.inl upd_same)) (RpAll.mono R (.same (new_same hp)) all))
    · cases e
  · split at e
    · rename_i xs ys hx hy
      split at e
      · rename_i hl
        cases e
        have lst : ∀ {v : V} {w : W} {xs : List PyData}, RpW B.g B.Pv L os H v w → (itemsL os w).bind datas = some xs → ∃ a vs, v = .ref a ∧ Rd H a (.lst vs) ∧ RpAll B.g.P B.g.w B.g.K H (fun a => live L os a ∨ B.Pv a) vs xs := fun {v w xs} r h => by
          cases q : itemsL os w with
          | none => rw [q] at h; cases h
          | some ws =>
            rw [q] at h
            obtain ⟨a, vs, f1, f2, f3⟩ := itemsL_ok R r q
            exact ⟨a, vs, f1, f2, datas_rp f3 h⟩
        obtain ⟨a, vs, e1, e2, e3⟩ := lst rw_ hx
        obtain ⟨b, us, e4, e5, e6⟩ := lst ru hy
        refine .inr (.inr (.inr ⟨a, b, vs, us, e1, e4, e2, e5, by rw [e3.length, e6.length]; exact big_line hl, fun p hp => ?_⟩))
        exact k _ _ (new_same hp) (.lst (.inl upd_same) (fun z => z.elim (R.nolive hp) (R.nopv hp)) (RpAll.mono R (.same (new_same hp)) (RpAll.append e3 e6)))
      · cases e
    · cases e
/-! ### slices -/
def cutL {α : Type} (xs : List α) (lo hi : Option Int) : List α := (xs.drop (HT.sIx xs.length 0 lo)).take (HT.sIx xs.length xs.length hi - HT.sIx xs.length 0 lo)
theorem RpAll.drop {P : Program} {w : World} {K : PySem.W.Frag} {H : Hp} {A : Addr → Prop} : ∀ {vs : List V} {xs : List PyData} (n : Nat), RpAll P w K H A vs xs → RpAll P w K H A (vs.drop n) (xs.drop n)
  | _, _, 0, r => r
  | _, _, _ + 1, .nil => .nil
  | _, _, n + 1, .cons _ t => RpAll.drop n t
theorem RpAll.take {P : Program} {w : World} {K : PySem.W.Frag} {H : Hp} {A : Addr → Prop} : ∀ {vs : List V} {xs : List PyData} (n : Nat), RpAll P w K H A vs xs → RpAll P w K H A (vs.take n) (xs.take n)
  | _, _, 0, _ => .nil
  | _, _, _ + 1, .nil => .nil
  | _, _, n + 1, .cons r t => .cons r (RpAll.take n t)
theorem RpAll.cut {P : Program} {w : World} {K : PySem.W.Frag} {H : Hp} {A : Addr → Prop} {vs : List V} {xs : List PyData} {lo hi : Option Int} (r : RpAll P w K H A vs xs) : RpAll P w K H A (cutV vs lo hi) (cutL xs lo hi) := by
  have e : cutV vs lo hi = cutL vs lo hi := rfl
  rw [e]
  unfold cutL
  rw [r.length]
  exact (r.drop _).take _
def gSl (os : List Ob) (lo hi : Option Int) (w : W) : Option W := match w with
  | .d (.tuple xs) => some (.d (.tuple (cutL xs lo hi)))
  | .d (.str z) => if z.length ≤ big then some (.d (.str (PySem.Txt.slice z lo hi))) else none
  | w => ((itemsL os w).bind datas).map fun xs => .d (.list (cutL xs lo hi))
def fP (B : Bs) (m : FM (Option Int)) : TO := fun σ H Q => ∃ L s o, RS B L s σ H ∧ m s = some o ∧ KE B o fun i s1 => ∀ H1 L1, RS B L1 s1 σ H1 → Gr L s.os H L1 s1.os H1 → Q i H1
def mNoP : FM (Option Int) := FM.pure none
def mPart (m : FM W) : FM (Option Int) := m.bind fun w s => match w with
  | .d (.int i) => some (.ok (some i) s)
  | _ => none
def mSl (m : FM W) (lo hi : FM (Option Int)) : FM W := m.bind fun w => lo.bind fun l => hi.bind fun h s => match gSl s.os l h w with
  | some r => some (.ok r s)
  | none => none
theorem PO.imp {X : Cx} {e : Option Expr} {t t' : TO} (h : PO X e t) (k : ∀ σ H Q, t' σ H Q → t σ H Q) : PO X e t' := ⟨fun pins s σ H Q I q => h.run pins s σ H Q I (k _ _ _ q)⟩
theorem fP.bind {B : Bs} {σ : L2.St} {H : Hp} {β : Type} {m : FM (Option Int)} {f : Option Int → FM β} {L : List Addr} {s : AS} {o : Oc β} {Q : Option Int → Hp → Prop} (R : RS B L s σ H) (h : FM.bind m f s = some o) (hx : ∀ e s1, o = .ex e s1 → Xd B e s1)
    (k : ∀ i s1 H1 L1, f i s1 = some o → RS B L1 s1 σ H1 → Gr L s.os H L1 s1.os H1 → Q i H1) : fP B m σ H Q := by
  rcases bind_some h with ⟨a, s1, h1, h2⟩ | ⟨e, s1, h1, h2⟩
  · exact ⟨L, s, _, R, h1, fun H1 L1 R1 gr => k a s1 H1 L1 h2 R1 gr⟩
  · exact ⟨L, s, _, R, h1, hx e s1 h2⟩
section
variable {X : Cx} {B : Bs} {e : Expr} {m : FM W} {p2 pos : Pos}
theorem fp_none : PO X none (fP B mNoP) := PO.imp po_none fun σ H Q ⟨L, s, o, R, e, k⟩ => by
  cases e
  exact k H L R .refl
theorem fp_some (h : PE X e (fE B m)) : PO X (some e) (fP B (mPart m)) := PO.imp (po_some h) fun σ H Q ⟨L, s, o, R, e, k⟩ => by
  refine fE.bind R e k.ex fun w s1 v H1 L1 e1 R1 r1 g1 => ?_
  split at e1
  · cases e1
    exact ⟨_, rpW_int r1, k H1 L1 R1 g1⟩
  · cases e1
theorem f_sl {lo hi : Option Expr} {ml mh : FM (Option Int)} (hK : X.K = B.g.K) (he : PE X e (fE B m)) (hl : PO X lo (fP B ml)) (hh : PO X hi (fP B mh)) : PE X (.Subscript e (.Slice lo hi none p2) pos) (fE B (mSl m ml mh)) :=
  PE.imp (pe_slice (sl_tupA.or (sl_list.or C8.sl_txt)) he hl hh) fun σ H Q ⟨L, s, o, R, e, k⟩ => by
    refine fE.bind R e k.ex fun w s1 v H1 L1 e1 R1 r1 g1 => ?_
    refine fP.bind R1 e1 k.ex fun l s2 H2 L2 e2 R2 g2 => ?_
    refine fP.bind R2 e2 k.ex fun h s3 H3 L3 e3 R3 g3 => ?_
    split at e3
    · rename_i r hr
      cases e3
      have r3 : RpW B.g B.Pv L3 s3.os H3 v w := RpW.mono R1.hr (g2.trans g3) r1
      have gg := (g1.trans g2).trans g3
      have fin : ∀ v' H', Same H3 H' → RpW B.g B.Pv L3 s3.os H' v' r → Q v' H' := fun v' H' sm rv => k v' H' L3 (R3.same sm) rv (gg.trans (.same sm))
      have lst : ((itemsL s3.os w).bind datas).map (fun xs => W.d (.list (cutL xs l h))) = some r → rSlL X.K v l h H3 Q := fun hr => by
        cases q : itemsL s3.os w with
        | none => rw [q] at hr; cases hr
        | some ws =>
          rw [q] at hr
          have hr : (datas ws).map (fun xs => W.d (.list (cutL xs l h))) = some r := hr
          cases q2 : datas ws with
          | none => rw [q2] at hr; cases hr
          | some xs =>
            rw [q2] at hr
            cases hr
            obtain ⟨a, vs, rfl, e5, e6⟩ := itemsL_ok R3.hr r3 q
            have ra := datas_rp e6 q2
            exact ⟨a, vs, rfl, .inl e5, fun p hp => fin _ _ (new_same hp) (.lst (.inl upd_same) (fun z => z.elim (R3.hr.nolive hp) (R3.hr.nopv hp)) (RpAll.mono R3.hr (.same (new_same hp)) ra.cut))⟩
      match w, r3, hr, lst with
      | .d (.tuple xs), r3, hr, _ =>
        cases hr
        obtain ⟨a, vs, rfl, e5, e6⟩ := rp_tup r3
        refine .inl ⟨a, vs, rfl, hK ▸ e5, fun hw => fin _ H3 (Same.refl _) (.tup e5 ?_), fun _ p hp => fin _ _ (new_same hp) (.tup (.inl (.inl upd_same)) (RpAll.mono R3.hr (.same (new_same hp)) e6.cut))⟩
        have hc := e6.cut (lo := l) (hi := h)
        have : cutV vs l h = vs := by
          unfold cutV
          rw [hw.1, hw.2, List.drop_zero, Nat.sub_zero, List.take_length]
        rw [this] at hc
        exact hc
      | .d (.str z), r3, hr, _ =>
        have hr : (if z.length ≤ big then some (W.d (.str (PySem.Txt.slice z l h))) else none) = some r := hr
        split at hr
        · rename_i hz
          cases hr
          exact .inr (.inr ⟨z, rp_str r3, big_line hz, fin _ H3 (Same.refl _) (Rp.str _)⟩)
        · cases hr
      | .d (.list xs), r3, hr, lst => exact .inr (.inl (lst hr))
      | .obj n, r3, hr, lst => exact .inr (.inl (lst hr))
    · cases e3
end
/-- t[::-1] of a tuple -/
def gRev (os : List Ob) (w : W) : Option W := match w with
  | .d (.tuple xs) => some (.d (.tuple xs.reverse))
  | _ => none
def mRev (m : FM W) : FM W := mOp1 gRev m
theorem RpAll.reverse {P : Program} {w : World} {K : PySem.W.Frag} {H : Hp} {A : Addr → Prop} : ∀ {vs : List V} {xs : List PyData}, RpAll P w K H A vs xs → RpAll P w K H A vs.reverse xs.reverse
  | _, _, .nil => .nil
  | _, _, .cons r t => by
    rw [List.reverse_cons, List.reverse_cons]
    exact RpAll.append (RpAll.reverse t) (.cons r .nil)
theorem f_rev {X : Cx} {B : Bs} {e : Expr} {m : FM W} {k : Nat} {p1 p2 p3 pos : Pos} (hK : X.K = B.g.K) (he : PE X e (fE B m)) : PE X (.Subscript e (.Slice none none (some (.UnaryOp .USub (.Constant (.int 1) k p1) p2)) p3) pos) (fE B (mRev m)) :=
  PE.imp (Fr.pe_revT he) fun σ H Q h => by
    obtain ⟨L, s, o, R, e, k⟩ := fE.op1 h
    refine ⟨L, s, o, R, e, ?_⟩
    cases o with
    | ex x s1 => exact k
    | ok w s1 =>
      refine fun v H1 L1 R1 r1 g1 => ?_
      obtain ⟨L2, os, w2, r, R2, rw2, e2, k2⟩ := k v H1 L1 R1 r1 g1
      unfold gRev at e2
      split at e2
      · cases e2
        obtain ⟨a, vs, rfl, e5, e6⟩ := rp_tup rw2
        exact ⟨a, vs, rfl, hK ▸ e5, fun p hp => k2 _ _ (new_same hp) (.tup (.inl (.inl upd_same)) (RpAll.mono R2 (.same (new_same hp)) e6.reverse))⟩
      · cases e2
end FL
namespace FL
open PySem PySem.Spec PyProof.Rows L2
/-! ### a < b < c -/
def mChain (f f' : List Ob → W → W → Option W) (a b c : FM W) : FM W := a.bind fun w => b.bind fun u s => match f s.os w u with
  | some (.d (.bool true)) => mOp2 f' (FM.pure u) c s
  | some (.d (.bool false)) => some (.ok (.d (.bool false)) s)
  | _ => none
section
variable {X : Cx} {B : Bs} {a b c : Expr} {ma mb mc : FM W} {f f' : List Ob → W → W → Option W} {op op' : CmpOp} {pos : Pos}
theorem fE.chain {σ : L2.St} {H : Hp} {Q : VK} (h : fE B (mChain f f' ma mb mc) σ H Q) : tChain (rF2 B f) (rF2 B f') (fE B ma) (fE B mb) (fE B mc) σ H Q := by
  obtain ⟨L, s, o, R, e, k⟩ := h
  refine fE.bind R e k.ex fun w s1 v H1 L1 e1 R1 r1 g1 => ?_
  refine fE.bind R1 e1 k.ex fun u s2 x H2 L2 e2 R2 r2 g2 => ?_
  have r1' := RpW.mono R1.hr g2 r1
  split at e2
  · rename_i hf
    refine ⟨L2, s2.os, w, u, _, R2.hr, r1', r2, hf, fun z H3 sm rz => ⟨true, rz.bool, ?_⟩⟩
    rw [if_pos rfl]
    have R3 := R2.same sm
    have r2' := RpW.mono R2.hr (.same sm) r2
    obtain e2 : FM.bind mc _ s2 = some o := e2
    refine fE.bind R3 e2 k.ex fun t s4 y H4 L4 e4 R4 r4 g4 => ?_
    split at e4
    · rename_i r hr
      cases e4
      exact ⟨L4, _, u, t, r, R4.hr, RpW.mono R3.hr g4 r2', r4, hr, fun v' H' sm' rv => k v' H' L4 (R4.same sm') rv ((((g1.trans g2).trans (.same sm)).trans g4).trans (.same sm'))⟩
    · cases e4
  · rename_i hf
    cases e2
    refine ⟨L2, _, w, u, _, R2.hr, r1', r2, hf, fun z H3 sm rz => ⟨false, rz.bool, ?_⟩⟩
    rw [if_neg (by decide)]
    exact k _ H3 L2 (R2.same sm) (Rp.bl _) ((g1.trans g2).trans (.same sm))
  · cases e2
theorem f_chain (ho : OpR X (compareOp op) (rF2 B f)) (ho' : OpR X (compareOp op') (rF2 B f')) (ha : PE X a (fE B ma)) (hb : PE X b (fE B mb)) (hc : PE X c (fE B mc)) (hm : lastMarks [op, op'] [b, c] = false := by with_unfolding_all rfl) :
    PE X (.Compare a [op, op'] [b, c] pos) (fE B (mChain f f' ma mb mc)) := PE.imp (pe_chain ho ho' ha hb hc hm) fun _ _ _ h => fE.chain h
theorem f_tchain (ho : OpR X (compareOp op) (rF2 B f)) (ho' : OpR X (compareOp op') (rF2 B f')) (ha : PE X a (fE B ma)) (hb : PE X b (fE B mb)) (hc : PE X c (fE B mc)) (hm : lastMarks [op, op'] [b, c] = false := by with_unfolding_all rfl) :
    PT X (.Compare a [op, op'] [b, c] pos) (fT B (mBool (mChain f f' ma mb mc))) := PT.imp (pt_chain ho ho' ha hb hc hm) fun σ H Q h => fE.chain (fE.bool h)
end
/-! ### -x and built-ins -/
def gNeg (os : List Ob) (w : W) : Option W := match w with
  | .d (.int i) => some (.d (.int (-i)))
  | _ => none
theorem f_neg {X : Cx} {B : Bs} {e : Expr} {m : FM W} {pos : Pos} (he : PE X e (fE B m)) : PE X (.UnaryOp .USub e pos) (fE B (mOp1 gNeg m)) :=
  PE.imp (pe_un un_neg he) fun σ H Q h => by
    obtain ⟨L, s, o, R, e, k⟩ := fE.op1 h
    refine ⟨L, s, o, R, e, ?_⟩
    cases o with
    | ex x s1 => exact k
    | ok w s1 =>
      refine fun v H1 L1 R1 r1 g1 => ?_
      obtain ⟨L2, os, w2, r, R2, rw2, e2, k2⟩ := k v H1 L1 R1 r1 g1
      unfold gNeg at e2
      split at e2
      · cases e2
        exact ⟨_, rpW_int rw2, k2 _ H1 (Same.refl _) (Rp.int _)⟩
      · cases e2
def gAbs (os : List Ob) : List W → Option W
  | [.d (.int i)] => some (.d (.int (if i < 0 then -i else i)))
  | _ => none
def gMax2 (os : List Ob) : List W → Option W
  | [.d (.int i), .d (.int j)] => some (.d (.int (if j > i then j else i)))
  | _ => none
def gMin2 (os : List Ob) : List W → Option W
  | [.d (.int i), .d (.int j)] => some (.d (.int (if j < i then j else i)))
  | _ => none
def gInt (os : List Ob) : List W → Option W
  | [.d (.int i)] => some (.d (.int i))
  | [.d (.bool k)] => some (.d (.int (if k then 1 else 0)))
  | _ => none
def gStr (os : List Ob) : List W → Option W
  | [.d (.int i)] => if i.natAbs < 2 ^ 1900 then some (.d (.str (toString i))) else none
  | _ => none
def gList (os : List Ob) : List W → Option W
  | [w] => (seqOf os w).map fun xs => .d (.list xs)
  | _ => none
def gTuple (os : List Ob) : List W → Option W
  | [w] => (seqOf os w).map fun xs => .d (.tuple xs)
  | _ => none
def boolsD : List PyData → Option (List Bool)
  | [] => some []
  | .bool b :: r => (boolsD r).map (b :: ·)
  | _ => none
def nlSeq (os : List Ob) : W → Option (List PyData)
  | .d (.tuple _) => none
  | w => seqOf os w
def gAll (os : List Ob) : List W → Option W
  | [w] => (nlSeq os w).bind fun xs => (boolsD xs).map fun (bs : List Bool) => .d (.bool (bs.all id))
  | _ => none
def gAny (os : List Ob) : List W → Option W
  | [w] => (nlSeq os w).bind fun xs => (boolsD xs).map fun (bs : List Bool) => .d (.bool (bs.any id))
  | _ => none
theorem paired1 {α β : Type} {F : α → β → Prop} {l : List α} {b : β} (h : Paired F l [b]) : ∃ a, l = [a] ∧ F a b := by
  cases h with
  | cons h t => cases t; exact ⟨_, rfl, h⟩
theorem paired2 {α β : Type} {F : α → β → Prop} {l : List α} {b c : β} (h : Paired F l [b, c]) : ∃ a d, l = [a, d] ∧ F a b ∧ F d c := by
  cases h with
  | cons h t =>
    obtain ⟨d, rfl, h2⟩ := paired1 t
    exact ⟨_, d, rfl, h, h2⟩
theorem bools_ok {P : Program} {w : World} {K : PySem.W.Frag} {H : Hp} {A : Addr → Prop} : ∀ {vs : List V} {xs : List PyData} {bs : List Bool}, RpAll P w K H A vs xs → boolsD xs = some bs → vs = bs.map V.bl
  | _, _, bs, .nil, e => by cases e; rfl
  | _, _, bs, .cons (x := x) (xs := xs) h t, e => by
    cases x with
    | bool b =>
      have e : (boolsD xs).map (b :: ·) = some bs := e
      cases q : boolsD xs with
      | none => rw [q] at e; cases e
      | some cs =>
        rw [q] at e
        cases e
        cases h
        rw [bools_ok t q]
        rfl
    | _ => cases e
section
variable {X : Cx} {B : Bs}
theorem abs_ok : CallR X (.builtin "abs") (rFn B gAbs) := CallR.imp call_abs fun xs H Q ⟨L, os, ws, r, R, rw_, e, k⟩ => by
  unfold gAbs at e
  split at e
  · cases e
    obtain ⟨v, rfl, h⟩ := paired1 rw_
    have := rpW_int h
    subst this
    exact ⟨_, rfl, k _ H (Same.refl H) (Rp.int _)⟩
  · cases e
theorem max2_ok (hc : X.calm = true) : CallR X (.builtin "max") (rFn B gMax2) := CallR.imp (call_max2 hc) fun xs H Q ⟨L, os, ws, r, R, rw_, e, k⟩ => by
  unfold gMax2 at e
  split at e
  · cases e
    obtain ⟨v, u, rfl, h, h2⟩ := paired2 rw_
    have := rpW_int h
    subst this
    have := rpW_int h2
    subst this
    exact ⟨_, _, rfl, k _ H (Same.refl H) (Rp.int _)⟩
  · cases e
theorem min2_ok (hc : X.calm = true) : CallR X (.builtin "min") (rFn B gMin2) := CallR.imp (call_min2 hc) fun xs H Q ⟨L, os, ws, r, R, rw_, e, k⟩ => by
  unfold gMin2 at e
  split at e
  · cases e
    obtain ⟨v, u, rfl, h, h2⟩ := paired2 rw_
    have := rpW_int h
    subst this
    have := rpW_int h2
    subst this
    exact ⟨_, _, rfl, k _ H (Same.refl H) (Rp.int _)⟩
  · cases e
theorem int_ok : CallR X (.type "int") (rFn B gInt) := CallR.imp call_int1 fun xs H Q ⟨L, os, ws, r, R, rw_, e, k⟩ => by
  unfold gInt at e
  split at e
  · cases e
    obtain ⟨v, rfl, h⟩ := paired1 rw_
    have := rpW_int h
    subst this
    exact .inl ⟨_, rfl, k _ H (Same.refl H) (Rp.int _)⟩
  · cases e
    obtain ⟨v, rfl, h⟩ := paired1 rw_
    have := rp_bool h
    subst this
    exact .inr ⟨_, rfl, k _ H (Same.refl H) (Rp.int _)⟩
  · cases e
theorem str_ok : CallR X (.type "str") (rFn B gStr) := CallR.imp call_str_int fun xs H Q ⟨L, os, ws, r, R, rw_, e, k⟩ => by
  unfold gStr at e
  split at e
  · rename_i i
    split at e
    · rename_i hi
      cases e
      obtain ⟨v, rfl, h⟩ := paired1 rw_
      have := rpW_int h
      subst this
      have hb : i.natAbs.log2 < 1920 := by
        by_cases h0 : i.natAbs = 0
        · rw [h0]; decide
        · exact (Nat.log2_lt h0).mpr (Nat.lt_of_lt_of_le hi (Nat.pow_le_pow_right (by decide) (by decide)))
      exact ⟨_, rfl, hb, k _ H (Same.refl H) (Rp.str _)⟩
    · cases e
  · cases e
theorem list_ok (hK : X.K = B.g.K) : CallR X (.type "list") (rFn B gList) := CallR.imp call_list_of fun xs H Q ⟨L, os, ws, r, R, rw_, e, k⟩ => by
  unfold gList at e
  split at e
  · rename_i w
    obtain ⟨v, rfl, h⟩ := paired1 rw_
    cases q : seqOf os w with
    | none => rw [q] at e; cases e
    | some ys =>
      rw [q] at e
      cases e
      obtain ⟨a, vs, rfl, e2, e3⟩ := in_core R h q
      exact ⟨a, vs, rfl, by rw [hK]; exact e2.imp id fun z => z.1, fun p hp => k _ _ (new_same hp) (.lst (.inl upd_same) (fun z => z.elim (R.nolive hp) (R.nopv hp)) (RpAll.mono R (.same (new_same hp)) e3))⟩
  · cases e
theorem tuple_ok (hK : X.K = B.g.K) : CallR X (.type "tuple") (rFn B gTuple) := CallR.imp call_tuple_of fun xs H Q ⟨L, os, ws, r, R, rw_, e, k⟩ => by
  unfold gTuple at e
  split at e
  · rename_i w
    obtain ⟨v, rfl, h⟩ := paired1 rw_
    cases q : seqOf os w with
    | none => rw [q] at e; cases e
    | some ys =>
      rw [q] at e
      cases e
      obtain ⟨a, vs, rfl, e2, e3⟩ := in_core R h q
      refine ⟨a, vs, rfl, ?_⟩
      rcases e2 with e2 | ⟨e2, _⟩
      · exact .inl ⟨hK ▸ e2, fun p hp => k _ _ (new_same hp) (.tup (.inl (.inl upd_same)) (RpAll.mono R (.same (new_same hp)) e3))⟩
      · exact .inr ⟨hK ▸ e2, k _ H (Same.refl H) (.tup e2 e3)⟩
  · cases e
theorem bools_core {os : List Ob} {w r : W} {v : V} {L : List Addr} {H : Hp} {f : List Bool → Bool} (R : HR B.g B.Pv L os H) (h : RpW B.g B.Pv L os H v w) (e : ((nlSeq os w).bind fun xs => (boolsD xs).map fun bs => W.d (.bool (f bs))) = some r) :
    ∃ a bs, v = .ref a ∧ SqL B.g.K H a (bs.map V.bl) ∧ r = .d (.bool (f bs)) := by
  have go : ∀ (h2 : ¬ ∃ zs, w = .d (.tuple zs)), ((seqOf os w).bind fun xs => (boolsD xs).map fun bs => W.d (.bool (f bs))) = some r → ∃ a bs, v = .ref a ∧ SqL B.g.K H a (bs.map V.bl) ∧ r = .d (.bool (f bs)) := fun h2 e => by
    cases q : seqOf os w with
    | none => rw [q] at e; cases e
    | some ys =>
      rw [q] at e
      have e : (boolsD ys).map (fun bs => W.d (.bool (f bs))) = some r := e
      cases q2 : boolsD ys with
      | none => rw [q2] at e; cases e
      | some bs =>
        rw [q2] at e
        cases e
        obtain ⟨a, vs, rfl, e2, e3⟩ := in_core R h q
        have := bools_ok e3 q2
        subst this
        rcases e2 with e2 | ⟨_, e2⟩
        · exact ⟨a, bs, rfl, e2, rfl⟩
        · exact absurd e2 h2
  match w, h, e, go with
  | .d (.tuple _), _, e, _ => cases e
  | .d (.list xs), _, e, go => exact go (fun ⟨zs, z⟩ => by cases z) e
  | .obj n, _, e, go => exact go (fun ⟨zs, z⟩ => by cases z) e
theorem all_ok (hK : X.K = B.g.K) (hc : X.calm = true) : CallR X (.builtin "all") (rFn B gAll) := CallR.imp (cr_all hc) fun xs H Q ⟨L, os, ws, r, R, rw_, e, k⟩ => by
  unfold gAll at e
  split at e
  · obtain ⟨v, rfl, h⟩ := paired1 rw_
    obtain ⟨a, bs, rfl, e2, rfl⟩ := bools_core R h e
    exact ⟨a, bs, rfl, hK ▸ e2, k _ H (Same.refl H) (Rp.bl _)⟩
  · cases e
theorem any_ok (hK : X.K = B.g.K) (hc : X.calm = true) : CallR X (.builtin "any") (rFn B gAny) := CallR.imp (cr_any hc) fun xs H Q ⟨L, os, ws, r, R, rw_, e, k⟩ => by
  unfold gAny at e
  split at e
  · obtain ⟨v, rfl, h⟩ := paired1 rw_
    obtain ⟨a, bs, rfl, e2, rfl⟩ := bools_core R h e
    exact ⟨a, bs, rfl, hK ▸ e2, k _ H (Same.refl H) (Rp.bl _)⟩
  · cases e
end
end FL
namespace Fr
open PySem PySem.Spec PyProof.Rows L2
/-! ### list.extend of a tuple -/
theorem list_extend_tup (l : Addr) (items : Array Value) (n : Nat) (b : Addr) (dd : Option Addr) (sl : Array (Option Value)) (items2 : Array Value) (n2 : Nat) (hs0 : ¬(!items.isEmpty && Builtin.List.listTooLong (items.size + items2.size)) = true) (hs1 : items.size ≤ sizeLine)
    (hs2 : items.size + items2.size ≤ sizeLine + 1) :
    Meets (Builtin.«list.extend» ⟨[.ref l, .ref b], []⟩) (fun _ R s => s.heap.get? l = some { cls := .type "list", dict := none, data := .seq items n, slots := #[] } ∧ s.heap.get? b = some { cls := .type "tuple", dict := dd, data := .seq items2 n2, slots := sl } ∧
      R (.ok (.ret Value.none)) { s with heap := s.heap.update l (Obj.mapSeq fun x => x ++ items2), toks := s.toks }) :=
  .of_wp fun prog w A R s h => by
    obtain ⟨hp, g, d, tk, os⟩ := s
    obtain ⟨hl, hb, h⟩ := h
    have e1 := AutoSeq1.idx_int; have e2 := AutoSeq1.sub_tuple_tuple; have e3 := AutoSeq1.sub_list_list; have e4 := AutoSeq1.sub_tuple_list; have e5 := AutoSeq1.sub_list_tuple
    have hz' : (items ++ items2).size ≤ sizeLine + 1 := by rw [Array.size_append]; exact hs2
    wp_walk using (wpAny_updateSeq hl rfl (hz := hs1) (_hz' := hz')), AutoSeq1.wpAny_loadPart' hl, AutoSeq1.wpAny_loadPart' hb
    exact ⟨_, rfl, h⟩
def rExtT (K : PySem.W.Frag) : V → List V → Hp → VK → Prop := fun x vs H Q => ∃ l b xs zs, x = .ref l ∧ vs = [.ref b] ∧ H l = some (.lst xs) ∧ SqT K H b zs ∧ xs.length + zs.length ≤ sizeLine ∧ Q .non (upd H l (.lst (xs ++ zs)))
theorem mt_extT {X : Cx} : MtR X "list.extend" (rExtT X.K) := by
  intro pins s σ H x vs v us Q I rx rv h
  obtain ⟨l, b, xs, zs, rfl, rfl, hH, hB, hz, q⟩ := h
  cases rx
  obtain ⟨u, rfl, ru⟩ := rv.one
  cases ru
  obtain ⟨z1, its, n, r1, hl1, e1⟩ := I.lstM hH
  obtain ⟨its2, r2, tup2, z2⟩ := I.tuple hB
  obtain ⟨⟨cls, dd, data, sl⟩, e2, hc, n2, hd⟩ := tup2
  simp only at hc hd
  subst hc hd
  have hl2 := r2.length
  have sz : its.toArray.size + its2.toArray.size ≤ sizeLine := by
    rw [List.size_toArray, List.size_toArray]
    omega
  have long : ¬ (!its.toArray.isEmpty && Builtin.List.listTooLong (its.toArray.size + its2.toArray.size)) = true := by
    rw [notLongL sz, Bool.and_false]
    exact Bool.false_ne_true
  have si : its.toArray.size ≤ sizeLine := by omega
  have sb : its.toArray.size + its2.toArray.size ≤ sizeLine + 1 := by omega
  exact call_meets F.slot_list_extend ⟨_, e1, rfl⟩ F.entry_list_extend (F.args_list_extend_2 _ _) (list_extend_tup l its.toArray n b dd sl its2.toArray n2 long si sb)
    ⟨e1, e2, .non, _, I.lset (its' := its ++ its2) hH e1 (by simp) (r1.append r2) (by rw [List.length_append]; omega), rfl, q⟩
end Fr
namespace FL
open PySem PySem.Spec PyProof.Rows L2
/-! ### what changes an object -/
def mEf (chk : List Ob → W → Bool) (f : List Ob → W → List W → Option (W × List Ob × List Nat)) (mo : FM W) (ms : FM (List W)) : FM W := mo.bind fun w s => if chk s.os w = true then (ms.bind fun ws s2 => match f s2.os w ws with
  | some (r, os', es) => some (.ok r { s2 with os := os', es := s2.es ++ es })
  | none => none) s else none
def rEf (B : Bs) (f : List Ob → W → List W → Option (W × List Ob × List Nat)) (x : V) (vs : List V) (H : Hp) (Q : VK) : Prop := ∃ L os w ws r os' es, HR B.g B.Pv L os H ∧ RpW B.g B.Pv L os H x w ∧ RpWs B.g B.Pv L os H vs ws ∧ f os w ws = some (r, os', es) ∧
  ∀ v H' L', HR B.g B.Pv L' os' H' → Gr L os H L' os' H' → Cf os os' es → RpW B.g B.Pv L' os' H' v r → Q v H'
section
variable {B : Bs}
theorem fE.ef {chk : List Ob → W → Bool} {f : List Ob → W → List W → Option (W × List Ob × List Nat)} {mo : FM W} {ms : FM (List W)} {σ : L2.St} {H : Hp} {Q : VK} (h : fE B (mEf chk f mo ms) σ H Q) :
    fE B mo σ H fun x H1 => (∃ L os w, HR B.g B.Pv L os H1 ∧ RpW B.g B.Pv L os H1 x w ∧ chk os w = true) ∧ fA B ms σ H1 fun vs H2 => rEf B f x vs H2 Q := by
  obtain ⟨L, s, o, R, e, k⟩ := h
  refine fE.bind R e k.ex fun w s1 x H1 L1 e1 R1 r1 g1 => ?_
  split at e1
  · rename_i hc
    refine ⟨⟨L1, s1.os, w, R1.hr, r1, hc⟩, ?_⟩
    refine fA.bind R1 e1 k.ex fun ws s2 vs H2 L2 e2 R2 r2 g2 => ?_
    split at e2
    · rename_i r os' es hf
      cases e2
      exact ⟨L2, s2.os, w, ws, r, os', es, R2.hr, RpW.mono R1.hr g2 r1, r2, hf, fun v H' L' hr gr cf rv => k v H' L' (R2.next hr gr cf) rv ((g1.trans g2).trans gr)⟩
    · cases e2
  · cases e1
end
theorem Cf.set' {os : List Ob} {n : Nat} {o old : Ob} {es : List Nat} (h1 : os[n]? = some old) (h : n ∈ es ∨ ∀ m, old.refs (· < m) → o.refs (· < m)) : Cf os (os.set n o) es := fun m hm hc hi k u hk e => by
  have hlt : n < os.length := (List.getElem?_eq_some_iff.mp h1).1
  by_cases q : k = n
  · subst q
    rw [List.getElem?_set_self hlt] at e
    cases e
    rcases h with h | h
    · exact absurd hk (Nat.not_lt.mpr (hi k h))
    · exact h m (hc k old hk h1)
  · rw [List.getElem?_set_ne (Ne.symm q)] at e
    exact hc k u hk e
def esOf (n : Nat) : W → List Nat
  | .obj _ => [n]
  | _ => []
theorem esOf_ok {n : Nat} {w : W} (h : n ∉ esOf n w) {p : Nat → Prop} : w.ref p := by
  cases w with
  | obj k => exact absurd List.mem_cons_self h
  | d x => trivial
  | exc e => trivial
section
variable {g : G} {Pv : Addr → Prop} {L : List Addr} {os : List Ob} {H : Hp}
/-- an object that is a list, in the heap -/
theorem lst_at (R : HR g Pv L os H) {x : V} {n : Nat} {us : List W} (r : RpW g Pv L os H x (.obj n)) (h : os[n]? = some (.lst us)) : ∃ a vs, x = .ref a ∧ L[n]? = some a ∧ H a = some (.lst vs) ∧ RpWs g Pv L os H vs us := by
  obtain ⟨a, e, rfl⟩ := r
  cases R.ob n a _ e h with
  | lst hl rl => exact ⟨a, _, rfl, e, hl, rl⟩
/-- the list is another one now -/
theorem lst_write (R : HR g Pv L os H) {n : Nat} {a : Addr} {us us' : List W} {vs' : List V} {es : List Nat} (hL : L[n]? = some a) (h : os[n]? = some (.lst us)) (r : RpWs g Pv L os H vs' us') (c : n ∈ es ∨ ∀ m, (∀ w ∈ us, w.ref (· < m)) → ∀ w ∈ us', w.ref (· < m)) :
    HR g Pv L (os.set n (.lst us')) (upd H a (.lst vs')) ∧ Gr L os H L (os.set n (.lst us')) (upd H a (.lst vs')) ∧ Cf os (os.set n (.lst us')) es := by
  have gr := Gr.set (H := H) (o := .lst us') (ho := .lst vs') hL h (fun z => nomatch z) (fun z => nomatch z)
  exact ⟨R.set hL h (fun z => nomatch z) (fun z => nomatch z) (RpWs.lt R r) (.lst upd_same (RpWs.mono R gr r)) (fun q z => nomatch z) nt_lst, gr, Cf.set' h c⟩
theorem RpWs.append {vs us : List V} {ws zs : List W} (a : RpWs g Pv L os H vs ws) (b : RpWs g Pv L os H us zs) : RpWs g Pv L os H (vs ++ us) (ws ++ zs) := by
  induction a with
  | nil => exact b
  | cons h _ ih => exact .cons h ih
theorem RpWs.dropLast {vs : List V} {ws : List W} (a : RpWs g Pv L os H vs ws) : RpWs g Pv L os H vs.dropLast ws.dropLast := by
  induction a with
  | nil => exact .nil
  | cons h t ih =>
    cases t with
    | nil => exact .nil
    | cons h2 t2 => exact .cons h ih
theorem RpWs.eraseIdx {vs : List V} {ws : List W} (a : RpWs g Pv L os H vs ws) : ∀ i : Nat, RpWs g Pv L os H (vs.eraseIdx i) (ws.eraseIdx i) := by
  induction a with
  | nil => exact fun _ => .nil
  | cons h t ih =>
    intro i
    cases i with
    | zero => exact t
    | succ j => exact .cons h (ih j)
theorem RpWs.set {vs : List V} {ws : List W} {v : V} {w : W} (a : RpWs g Pv L os H vs ws) (r : RpW g Pv L os H v w) : ∀ i : Nat, RpWs g Pv L os H (vs.set i v) (ws.set i w) := by
  induction a with
  | nil => exact fun _ => .nil
  | cons h t ih =>
    intro i
    cases i with
    | zero => exact .cons r t
    | succ j => exact .cons h (ih j)
end
def isLst (os : List Ob) : W → Bool
  | .obj n => match os[n]? with
    | some (.lst _) => true
    | _ => false
  | _ => false
theorem isLst_some {os : List Ob} {w : W} (h : isLst os w = true) : ∃ (n : Nat) (us : List W), w = .obj n ∧ os[n]? = some (.lst us) := by
  cases w with
  | obj n =>
    have h : (match os[n]? with | some (.lst _) => true | _ => false) = true := h
    split at h
    · exact ⟨n, _, rfl, by assumption⟩
    · cases h
  | d x => cases h
  | exc e => cases h
theorem tyV_lst {g : G} {Pv : Addr → Prop} {H : Hp} {x : V} (h : ∃ L os w, HR g Pv L os H ∧ RpW g Pv L os H x w ∧ isLst os w = true) : tyV g.K "list" x H := by
  obtain ⟨L, os, w, R, r, c⟩ := h
  obtain ⟨n, us, rfl, e⟩ := isLst_some c
  obtain ⟨a, vs, rfl, _, hl, _⟩ := lst_at R r e
  exact .inl ⟨rfl, vs, SqL.of hl⟩
def listO (os : List Ob) : W → Option (Nat × List W)
  | .obj n => (itemsO os[n]?).map fun us => (n, us)
  | _ => none
theorem listO_some {os : List Ob} {w : W} {n : Nat} {us : List W} (h : listO os w = some (n, us)) : w = .obj n ∧ os[n]? = some (.lst us) := by
  cases w with
  | obj k =>
    have h : (itemsO os[k]?).map (fun us => (k, us)) = some (n, us) := h
    cases q : os[k]? with
    | none => rw [q] at h; cases h
    | some o =>
      rw [q] at h
      cases o with
      | lst ws => cases h; exact ⟨rfl, q⟩
      | dead => cases h
      | dct => cases h
      | dcn => cases h
      | ins => cases h
      | tab => cases h
  | d x => cases h
  | exc e => cases h
def gAppend (os : List Ob) (w : W) (ws : List W) : Option (W × List Ob × List Nat) := match listO os w, ws with
  | some (n, us), [u] => if us.length < big then some (.d .none, os.set n (.lst (us ++ [u])), esOf n u) else none
  | _, _ => none
def gExtend (os : List Ob) (w : W) (ws : List W) : Option (W × List Ob × List Nat) := match listO os w, ws with
  | some (n, us), [u] => (seqOf os u).bind fun xs => if us.length + xs.length ≤ big then some (.d .none, os.set n (.lst (us ++ xs.map .d)), []) else none
  | _, _ => none
def gPop (os : List Ob) (w : W) (ws : List W) : Option (W × List Ob × List Nat) := match listO os w, ws with
  | some (n, us), [] => (us[us.length - 1]?).map fun u => (u, os.set n (.lst us.dropLast), [])
  | _, _ => none
def gPopAt (os : List Ob) (w : W) (ws : List W) : Option (W × List Ob × List Nat) := match listO os w, ws with
  | some (n, us), [.d (.int i)] => if -(2 ^ 63) ≤ i ∧ i < 2 ^ 63 then (seqIndex? i us.length).bind fun k => (us[k]?).map fun u => (u, os.set n (.lst (us.eraseIdx k)), []) else none
  | _, _ => none
theorem esOf_or {n : Nat} {w : W} {us : List W} : n ∈ esOf n w ∨ ∀ m, (∀ u ∈ us, u.ref (· < m)) → ∀ u ∈ us ++ [w], u.ref (· < m) := by
  by_cases h : n ∈ esOf n w
  · exact .inl h
  · refine .inr fun m hm u hu => ?_
    rcases List.mem_append.mp hu with hu | hu
    · exact hm u hu
    · rw [List.mem_singleton.mp hu]
      exact esOf_ok h
section
variable {X : Cx} {B : Bs}
theorem append_ok : MtR X "list.append" (rEf B gAppend) := fun pins s σ H x xs v us Q I rx rxs ⟨L, os, w, ws, r, os', es, R, rw_, rws, e, k⟩ => by
  refine mt_append pins s σ H x xs v us Q I rx rxs ?_
  unfold gAppend at e
  split at e
  · rename_i n zs u hl
    split at e
    · rename_i hb
      cases e
      obtain ⟨rfl, ho⟩ := listO_some hl
      obtain ⟨a, vs, rfl, hL, hH, rr⟩ := lst_at R rw_ ho
      obtain ⟨y, rfl, ry⟩ := paired1 rws
      obtain ⟨h1, h2, h3⟩ := lst_write R hL ho (RpWs.append rr (.cons ry .nil)) (esOf_or (n := n) (w := u))
      exact ⟨a, vs, y, rfl, rfl, hH, by rw [Paired.length rr]; have := sizeLine_eq; unfold big at hb; omega, k _ _ L h1 h2 h3 .non⟩
    · cases e
  · cases e
theorem pop_ok : MtR X "list.pop" (rEf B gPop) := fun pins s σ H x xs v us Q I rx rxs ⟨L, os, w, ws, r, os', es, R, rw_, rws, e, k⟩ => by
  refine mt_pop pins s σ H x xs v us Q I rx rxs ?_
  unfold gPop at e
  split at e
  · rename_i n zs hl
    cases q : zs[zs.length - 1]? with
    | none => rw [q] at e; cases e
    | some u =>
      rw [q] at e
      cases e
      obtain ⟨rfl, ho⟩ := listO_some hl
      obtain ⟨a, vs, rfl, hL, hH, rr⟩ := lst_at R rw_ ho
      cases rws
      obtain ⟨y, hy, ry⟩ := rr.get q
      obtain ⟨h1, h2, h3⟩ := lst_write R hL ho rr.dropLast (es := []) (.inr fun m hm w hw => hm w ((List.dropLast_sublist zs).subset hw))
      exact ⟨a, vs, y, rfl, rfl, hH, by rw [Paired.length rr]; exact hy, k _ _ L h1 h2 h3 (RpW.mono R h2 ry)⟩
  · cases e
theorem popAt_ok : MtR X "list.pop" (rEf B gPopAt) := fun pins s σ H x xs v us Q I rx rxs ⟨L, os, w, ws, r, os', es, R, rw_, rws, e, k⟩ => by
  refine mt_popAt pins s σ H x xs v us Q I rx rxs ?_
  unfold gPopAt at e
  split at e
  · rename_i n zs i hl
    split at e
    · rename_i hb
      cases q : seqIndex? i zs.length with
      | none => rw [q] at e; cases e
      | some j =>
        rw [q] at e
        have e : (zs[j]?).map (fun u => (u, os.set n (.lst (zs.eraseIdx j)), ([] : List Nat))) = some (r, os', es) := e
        cases q2 : zs[j]? with
        | none => rw [q2] at e; cases e
        | some u =>
          rw [q2] at e
          cases e
          obtain ⟨rfl, ho⟩ := listO_some hl
          obtain ⟨a, vs, rfl, hL, hH, rr⟩ := lst_at R rw_ ho
          obtain ⟨z, rfl, rz⟩ := paired1 rws
          have := rpW_int rz
          subst this
          obtain ⟨y, hy, ry⟩ := rr.get q2
          obtain ⟨h1, h2, h3⟩ := lst_write R hL ho (rr.eraseIdx j) (es := []) (.inr fun m hm w hw => hm w (List.mem_of_mem_eraseIdx hw))
          exact ⟨a, vs, i, j, y, rfl, rfl, hH, hb.1, hb.2, by rw [Paired.length rr]; exact q, hy, k _ _ L h1 h2 h3 (RpW.mono R h2 ry)⟩
    · cases e
  · cases e
/-- l.extend(..) of a list that may be locked -/
theorem extR_run {pins : List (Addr × Obj)} {s : Shared} {σ : L2.St} {H : Hp} {Q : VK} {l b : Addr} {xs zs : List V} (I : Inv X pins σ H s) (hH : H l = some (.lst xs)) (hB : Rd H b (.lst zs)) (hz : xs.length + zs.length ≤ sizeLine) (q : Q .non (upd H l (.lst (xs ++ zs)))) :
    wpAny (model X.prog X.w) X.A (call (.builtin "list.extend") [.ref l, .ref b]) (EP X pins σ Q) X.xe s := by
  obtain ⟨_, i1, n1, r1, g1⟩ := I.hok l _ hH
  obtain ⟨_, i2, n2, r2, g2⟩ := hB.ok I.hok
  have h1 := r1.length
  have h2 := r2.length
  have sz : i1.toArray.size + i2.toArray.size ≤ sizeLine := by simp only [List.size_toArray]; omega
  have nl : ¬ (!i1.toArray.isEmpty && Builtin.List.listTooLong (i1.toArray.size + i2.toArray.size)) = true := by
    rw [notLongL sz, Bool.and_false]
    decide
  have s1 : i1.toArray.size ≤ sizeLine := by omega
  have s2 : i1.toArray.size + i2.toArray.size ≤ sizeLine + 1 := by omega
  have fin : (xs ++ zs).length ≤ sizeLine := by rw [List.length_append]; exact hz
  exact call_meets F.slot_list_extend ⟨_, g1, rfl⟩ F.entry_list_extend (F.args_list_extend_2 _ _) (AutoSeq1.list_extend_list_list_0 l i1.toArray n1 b i2.toArray n2 nl s1 s2)
    ⟨g1, g2, .non, _, I.lset (its' := i1 ++ i2) hH g1 (by simp) (r1.append r2) fin, rfl, q⟩
theorem rp_seqL {g : G} {Pv : Addr → Prop} {L : List Addr} {os : List Ob} {H : Hp} (R : HR g Pv L os H) {v : V} {w : W} {ys : List PyData} (r : RpW g Pv L os H v w) (h : seqOf os w = some ys) : ∃ a vs, v = .ref a ∧ (Rd H a (.lst vs) ∨ SqT g.K H a vs) ∧ RpAll g.P g.w g.K H (fun a => live L os a ∨ Pv a) vs ys := by
  match w, r, h with
  | .d (.tuple xs), r, h =>
    cases h
    obtain ⟨a, vs, e, h, r⟩ := rp_tup r
    exact ⟨a, vs, e, .inr h, r⟩
  | .d (.list xs), r, h =>
    cases h
    have r : Rp g.P g.w g.K H _ v (.list ys) := r
    cases r with
    | lst h n r => exact ⟨_, _, rfl, .inl h, r⟩
  | .obj n, r, h =>
    have h : (itemsO os[n]?).bind datas = some ys := h
    cases q : itemsO os[n]? with
    | none => rw [q] at h; cases h
    | some ws =>
      rw [q] at h
      obtain ⟨a, vs, rfl, e2, e3⟩ := itemsL_ok R r (ws := ws) q
      exact ⟨a, vs, rfl, .inl e2, datas_rp e3 h⟩
theorem extend_ok (hK : X.K = B.g.K) : MtR X "list.extend" (rEf B gExtend) := fun pins s σ H x xs v us Q I rx rxs ⟨L, os, w, ws, r, os', es, R, rw_, rws, e, k⟩ => by
  unfold gExtend at e
  split at e
  · rename_i n zs u hl
    cases q : seqOf os u with
    | none => rw [q] at e; cases e
    | some ys =>
      rw [q] at e
      have e : (if zs.length + ys.length ≤ big then some (W.d .none, os.set n (.lst (zs ++ ys.map .d)), ([] : List Nat)) else none) = some (r, os', es) := e
      split at e
      · rename_i hb
        cases e
        obtain ⟨rfl, ho⟩ := listO_some hl
        obtain ⟨a, vs, rfl, hL, hH, rr⟩ := lst_at R rw_ ho
        obtain ⟨y, rfl, ry⟩ := paired1 rws
        obtain ⟨b, ws', rfl, hb2, rb⟩ := rp_seqL R ry q
        have hz : vs.length + ws'.length ≤ sizeLine := by rw [Paired.length rr, rb.length]; exact big_line hb
        obtain ⟨h1, h2, h3⟩ := lst_write R hL ho (RpWs.append rr rb.ws) (es := []) (.inr fun m hm w hw => by
          rcases List.mem_append.mp hw with hw | hw
          · exact hm w hw
          · exact refs_d ys w hw)
        have fin := k _ _ L h1 h2 h3 .non
        rcases hb2 with hb2 | hb2
        · cases rx
          obtain ⟨u1, rfl, ru⟩ := rxs.one
          cases ru
          exact extR_run I hH hb2 hz fin
        · exact Fr.mt_extT pins s σ H _ _ v us Q I rx rxs ⟨a, b, vs, ws', rfl, rfl, hH, hK ▸ hb2, hz, fin⟩
      · cases e
  · cases e
end
section
variable {X : Cx} {B : Bs} {o e : Expr} {es : List Expr} {mo : FM W} {ms : FM (List W)} {name : Str} {apos cpos : Pos} {id : String} {f : List Ob → W → List W → Option (W × List Ob × List Nat)}
/-- l.m(..), m a method of lists -/
theorem f_lm (hK : X.K = B.g.K) (slot : Slot "list" name id) (hty : typeOf (.builtin id) = pure (.type "method_descriptor")) (hm : MtR X id (rEf B f)) (ho : PE X o (fE B mo)) (ha : PA X (e :: es) (fA B ms))
    (hbase : attributeBase o name X.env (eval o X.env) = eval o X.env := by rfl)
    (hfew : ((backTo cpos (starEach (e :: es) X.env)).all (fun x => !x.1) && (backToKw cpos (keywordEach [] X.env)).all (fun x => x.1.isSome)
      && decide ((e :: es).length + ([] : List Keyword).length + (if ([] : List Keyword).isEmpty then 0 else 1) < 30)) = true := by rfl)
    (hline : (apos.endLine == cpos.line) = true := by rfl) (hs : starEach (e :: es) X.env = (false, eval e X.env) :: starEach es X.env := by rfl) (hplain : (backTo cpos (starEach es X.env)).any (·.1) = false := by rfl) :
    PE X (.Call (.Attribute o name apos) (e :: es) [] cpos) (fE B (mEf isLst f mo ms)) :=
  PE.imp (pe_bm PySem.F.plainAttrs_list slot hty hm ho ha hbase hfew hline hs hplain) fun σ H Q h => by
    obtain ⟨L, s, oc, R, e, k⟩ := fE.ef h
    refine ⟨L, s, oc, R, e, ?_⟩
    cases oc with
    | ex x s1 => exact k
    | ok w s1 =>
      refine fun v H1 L1 R1 r1 g1 => ?_
      obtain ⟨h1, h2⟩ := k v H1 L1 R1 r1 g1
      exact ⟨hK ▸ tyV_lst h1, h2⟩
theorem f_lm0 (hK : X.K = B.g.K) (slot : Slot "list" name id) (hty : typeOf (.builtin id) = pure (.type "method_descriptor")) (hm : MtR X id (rEf B f)) (ho : PE X o (fE B mo))
    (hbase : attributeBase o name X.env (eval o X.env) = eval o X.env := by rfl) (hline : (apos.endLine == cpos.line) = true := by rfl) :
    PE X (.Call (.Attribute o name apos) [] [] cpos) (fE B (mEf isLst f mo mNil)) :=
  PE.imp (pe_bm0 PySem.F.plainAttrs_list slot hty hm ho hbase hline) fun σ H Q h => by
    obtain ⟨L, s, oc, R, e, k⟩ := fE.ef h
    refine ⟨L, s, oc, R, e, ?_⟩
    cases oc with
    | ex x s1 => exact k
    | ok w s1 =>
      refine fun v H1 L1 R1 r1 g1 => ?_
      obtain ⟨h1, L2, s2, o2, R2, e2, k2⟩ := k v H1 L1 R1 r1 g1
      cases e2
      exact ⟨hK ▸ tyV_lst h1, k2 [] H1 L2 R2 .nil .refl⟩
end
/-! ### o[i] = v of a list -/
def gSubF (st : List Ob → W → W → W → Option (List Ob × List Nat)) (mo mi : FM W) : FG := fun w => mo.bind fun o => mi.bind fun i s => match st s.os o i w with
  | some (os', es) => some (.ok () { s with os := os', es := s.es ++ es })
  | none => none
def rSt (B : Bs) (st : List Ob → W → W → W → Option (List Ob × List Nat)) (o i v : V) (H : Hp) (Q : Hp → Prop) : Prop := ∃ L os wo wi wv os' es, HR B.g B.Pv L os H ∧ RpW B.g B.Pv L os H o wo ∧ RpW B.g B.Pv L os H i wi ∧ RpW B.g B.Pv L os H v wv ∧ st os wo wi wv = some (os', es) ∧
  ∀ H' L', HR B.g B.Pv L' os' H' → Gr L os H L' os' H' → Cf os os' es → Q H'
theorem PSet.imp {X : Cx} {t t' : TSet} (h : PSet X t) (k : ∀ o i v H Q, t' o i v H Q → t o i v H Q) : PSet X t' := fun pins s σ H o i v ov iv u Q I ro ri rv q => h pins s σ H o i v ov iv u Q I ro ri rv (k _ _ _ _ _ q)
theorem fg_sub {X : Cx} {B : Bs} {o i : Expr} {mo mi : FM W} {st : List Ob → W → W → W → Option (List Ob × List Nat)} {pos : Pos} (ho : PE X o (fE B mo)) (hi : PE X i (fE B mi)) (hs : PSet X (rSt B st)) (h : PG X (.Subscript o i pos) (gSub (fE B mo) (fE B mi) (rSt B st))) :
    PG X (.Subscript o i pos) (fG B (gSubF st mo mi)) :=
  PG.imp h fun v σ H Q ⟨L, s, w, oc, R, r, e, k⟩ => by
    refine fE.bind R e k.ex fun wo s1 vo H1 L1 e1 R1 r1 g1 => ?_
    refine fE.bind R1 e1 k.ex fun wi s2 vi H2 L2 e2 R2 r2 g2 => ?_
    split at e2
    · rename_i os' es hf
      cases e2
      exact ⟨L2, s2.os, wo, wi, w, os', es, R2.hr, RpW.mono R1.hr g2 r1, r2, RpW.mono R.hr (g1.trans g2) r, hf, fun H' L' hr gr cf => k σ H' L' (R2.next hr gr cf) ((g1.trans g2).trans gr)⟩
    · cases e2
def stList (os : List Ob) (o i v : W) : Option (List Ob × List Nat) := match listO os o, i with
  | some (n, us), .d (.int k) => (ixN us.length k).map fun j => (os.set n (.lst (us.set j v)), esOf n v)
  | _, _ => none
theorem setL_ok {X : Cx} {B : Bs} : PSet X (rSt B stList) := PSet.imp set_list fun o i v H Q ⟨L, os, wo, wi, wv, os', es, R, ro, ri, rv, e, k⟩ => by
  unfold stList at e
  split at e
  · rename_i n us j hl
    cases q : ixN us.length j with
    | none => rw [q] at e; cases e
    | some m =>
      rw [q] at e
      cases e
      obtain ⟨rfl, ho⟩ := listO_some hl
      obtain ⟨a, vs, rfl, hL, hH, rr⟩ := lst_at R ro ho
      have := rpW_int ri
      subst this
      obtain ⟨h1, h2, h3⟩ := lst_write R hL ho (RpWs.set rr rv m) (es := esOf n wv) (by
        by_cases hw : n ∈ esOf n wv
        · exact .inl hw
        · refine .inr fun m hm u hu => ?_
          rcases List.mem_or_eq_of_mem_set hu with hu | hu
          · exact hm u hu
          · rw [hu]; exact esOf_ok hw)
      exact ⟨a, vs, j, m, rfl, rfl, hH, by rw [Paired.length rr]; exact q, k _ L h1 h2 h3⟩
  · cases e
/-! ### attributes -/
def fldO (c f : Str) : Option Ob → Option W
  | some (.ins c' fs) => if c' = c then fs.lookup f else none
  | _ => none
def gFld (c f : Str) (os : List Ob) (w : W) : Option W := match w with
  | .obj n => fldO c f os[n]?
  | _ => none
def putW (f : Str) (v : W) : List (Str × W) → List (Str × W)
  | [] => [(f, v)]
  | (g, x) :: r => if g = f then (g, v) :: r else (g, x) :: putW f v r
structure ClsOk (g : G) (c f : Str) : Prop where
  ex : ∃ C, g.T.cls c = some C ∧ Cls g.K C ∧ NoAttr g.K C f
theorem lookup_ok {g : G} {Pv : Addr → Prop} {L : List Addr} {os : List Ob} {H : Hp} {f : Str} : ∀ {vs : List (Str × V)} {fs : List (Str × W)} {w : W}, vs.map (·.1) = fs.map (·.1) → RpWs g Pv L os H (vs.map (·.2)) (fs.map (·.2)) → fs.lookup f = some w → ∃ v, vs.lookup f = some v ∧ RpW g Pv L os H v w
  | [], [], _, _, _, h => by cases h
  | (a, v) :: vs, (b, u) :: fs, w, hn, r, h => by
    rw [List.map_cons, List.map_cons] at hn
    injection hn with h1 h2
    have h1 : a = b := h1
    subst h1
    cases r with
    | cons r rr =>
      rw [List.lookup_cons] at h ⊢
      cases q : (f == a) with
      | true => rw [q] at h; cases h; exact ⟨v, rfl, r⟩
      | false => rw [q] at h; exact lookup_ok h2 rr h
theorem put_ok {g : G} {Pv : Addr → Prop} {L : List Addr} {os : List Ob} {H : Hp} {f : Str} {v : V} {w : W} (rv : RpW g Pv L os H v w) : ∀ {vs : List (Str × V)} {fs : List (Str × W)}, vs.map (·.1) = fs.map (·.1) → RpWs g Pv L os H (vs.map (·.2)) (fs.map (·.2)) →
    (putF f v vs).map (·.1) = (putW f w fs).map (·.1) ∧ RpWs g Pv L os H ((putF f v vs).map (·.2)) ((putW f w fs).map (·.2))
  | [], [], _, _ => ⟨rfl, .cons rv .nil⟩
  | (a, x) :: vs, (b, u) :: fs, hn, r => by
    rw [List.map_cons, List.map_cons] at hn
    injection hn with h1 h2
    have h1 : a = b := h1
    subst h1
    cases r with
    | cons r rr =>
      unfold putF putW
      by_cases q : a = f
      · rw [if_pos q, if_pos q]
        exact ⟨by rw [List.map_cons, List.map_cons, h2], .cons rv rr⟩
      · rw [if_neg q, if_neg q]
        obtain ⟨i1, i2⟩ := put_ok rv h2 rr
        exact ⟨by rw [List.map_cons, List.map_cons, i1], .cons r i2⟩
theorem putW_refs {f : Str} {w : W} {p : Nat → Prop} (hw : w.ref p) : ∀ {fs : List (Str × W)}, (∀ q ∈ fs, q.2.ref p) → ∀ q ∈ putW f w fs, q.2.ref p
  | [], _, q, h => by rw [List.mem_singleton.mp h]; exact hw
  | (a, x) :: r, hf, q, h => by
    unfold putW at h
    split at h
    · rcases List.mem_cons.mp h with rfl | h
      · exact hw
      · exact hf q (List.mem_cons_of_mem _ h)
    · rcases List.mem_cons.mp h with rfl | h
      · exact hf _ List.mem_cons_self
      · exact putW_refs hw (fun z hz => hf z (List.mem_cons_of_mem _ hz)) q h
section
variable {X : Cx} {B : Bs} {e o : Expr} {m mo : FM W} {c f : Str} {pos pos' : Pos}
theorem f_fld (hK : X.K = B.g.K) (C : ClsOk B.g c f) (he : PE X e (fE B m)) (hb : attributeBase e f X.env (eval e X.env) = eval e X.env := by rfl) : PE X (.Attribute e f pos) (fE B (mOp1 (gFld c f) m)) :=
  PE.imp (pe_fld he hb) fun σ H Q h => by
    obtain ⟨L, s, o, R, e, k⟩ := fE.op1 h
    refine ⟨L, s, o, R, e, ?_⟩
    cases o with
    | ex x s1 => exact k
    | ok w s1 =>
      refine fun v H1 L1 R1 r1 g1 => ?_
      obtain ⟨L2, os, w2, r, R2, rw2, e2, k2⟩ := k v H1 L1 R1 r1 g1
      match w2, rw2, e2 with
      | .obj n, rw2, e2 =>
        have e2 : fldO c f os[n]? = some r := e2
        obtain ⟨a, hL, rfl⟩ := rw2
        cases q : os[n]? with
        | none => rw [q] at e2; cases e2
        | some ob =>
          rw [q] at e2
          cases R2.ob n a ob hL q with
          | @ins C' dx c' vs fs hc hH hn hr =>
            have e9 : (if c' = c then fs.lookup f else none) = some r := e2
            clear e2
            split at e9
            · rename_i hcc
              subst hcc
              obtain ⟨C0, h1, h2, h3⟩ := C.ex
              rw [hc] at h1
              cases h1
              obtain ⟨v, hv, rv⟩ := lookup_ok hn hr e9
              exact ⟨a, C', dx, vs, v, rfl, hH, hK ▸ h2, hK ▸ h3, hv, k2 v H1 (Same.refl _) rv⟩
            · cases e9
          | lst => cases e2
          | dead => cases e2
          | dK => cases e2
          | dN => cases e2
          | tab => cases e2
def stFldO (c f : Str) (w : W) : Option Ob → Option (List (Str × W))
  | some (.ins c' fs) => if c' = c ∧ fs.length < 1000 then some (putW f w fs) else none
  | _ => none
def mSetFld (c f : Str) (mv mo : FM W) : FM Fl := mv.bind fun w => mo.bind fun o s => match o with
  | .obj n => match stFldO c f w s.os[n]? with
    | some fs => some (.ok .nx { s with os := s.os.set n (.ins c fs), es := s.es ++ esOf n w })
    | none => none
  | _ => none
theorem fs_fld (hK : X.K = B.g.K) (C : ClsOk B.g c f) (ho : PE X o (fE B mo)) (he : PE X e (fE B m)) (hs : swapsWith e (some (.Attribute o f pos')) pos.line X.env = pure false := by rfl) : PS X (.Assign [.Attribute o f pos'] e pos) (fS B (mSetFld c f m mo)) :=
  PS.imp (ps_fld ho he hs) fun D σ H ⟨L, s, oc, R, e, k⟩ => by
    refine fE.bind R e k.ex fun w s1 v H1 L1 e1 R1 r1 g1 => ?_
    refine fE.bind R1 e1 k.ex fun ob s2 x H2 L2 e2 R2 r2 g2 => ?_
    match ob, r2, e2 with
    | .obj n, r2, e2 =>
      have e2 : (match stFldO c f w s2.os[n]? with
        | some fs => some (Oc.ok Fl.nx { s2 with os := s2.os.set n (.ins c fs), es := s2.es ++ esOf n w })
        | none => none) = some oc := e2
      split at e2
      · rename_i fs' hst
        cases e2
        obtain ⟨a, hL, rfl⟩ := r2
        cases q : s2.os[n]? with
        | none => rw [q] at hst; cases hst
        | some ob =>
          rw [q] at hst
          cases R2.hr.ob n a ob hL q with
          | @ins C' dx c' vs fs hc hH hn hr =>
            have hst9 : (if c' = c ∧ fs.length < 1000 then some (putW f w fs) else none) = some fs' := hst
            clear hst
            split at hst9
            · rename_i hcc
              obtain ⟨hcc, hlen⟩ := hcc
              subst hcc
              cases hst9
              obtain ⟨C0, h1, h2, h3⟩ := C.ex
              rw [hc] at h1
              cases h1
              have r1' := RpW.mono R1.hr g2 r1
              obtain ⟨p1, p2⟩ := put_ok (f := f) r1' hn hr
              have gr := Gr.set (H := H2) (o := .ins c' (putW f w fs)) (ho := .ins C' dx (putF f v vs)) hL q (fun z => nomatch z) (fun z => nomatch z)
              have wf := R2.hr.wf n _ q
              have hr' := R2.hr.set (ho := .ins C' dx (putF f v vs)) hL q (fun z => nomatch z) (fun z => nomatch z) (o := .ins c' (putW f w fs)) (putW_refs (RpW.lt R2.hr r1') wf) (.ins hc upd_same p1 (RpWs.mono R2.hr gr p2))
              have cf : Cf s2.os (s2.os.set n (.ins c' (putW f w fs))) (esOf n w) := Cf.set' q (by
                by_cases hw : n ∈ esOf n w
                · exact .inl hw
                · exact .inr fun m hm => putW_refs (esOf_ok hw) hm)
              refine ⟨a, C', dx, vs, rfl, hH, hK ▸ h2, hK ▸ h3, ?_, k σ _ L2 (R2.next (hr' (fun q z => nomatch z) fun _ z => nomatch z) gr cf) ((g1.trans g2).trans gr)⟩
              have : vs.length = fs.length := by
                have := congrArg List.length hn
                rw [List.length_map, List.length_map] at this
                exact this
              omega
            · cases hst9
          | lst => cases hst
          | dead => cases hst
          | dK => cases hst
          | dN => cases hst
          | tab => cases hst
      · cases e2
end
/-! ### a list object that is changed no more -/
def frzO : Option Ob → Option (List PyData)
  | some (.lst ws) => datas ws
  | _ => none
def mFrz (m : FM W) : FM W := m.bind fun w s => match w with
  | .obj n => match frzO s.os[n]? with
    | some xs => some (.ok (.d (.list xs)) { s with os := s.os.set n .dead })
    | none => none
  | w => some (.ok w s)
theorem f_frz {X : Cx} {B : Bs} {e : Expr} {m : FM W} (he : PE X e (fE B m)) : PE X e (fE B (mFrz m)) :=
  PE.imp he fun σ H Q ⟨L, s, o, R, e, k⟩ => by
    refine fE.bind R e k.ex fun w s1 v H1 L1 e1 R1 r1 g1 => ?_
    match w, r1, e1 with
    | .obj n, r1, e1 =>
      have e1 : (match frzO s1.os[n]? with
        | some xs => some (Oc.ok (W.d (.list xs)) { s1 with os := s1.os.set n .dead })
        | none => none) = some o := e1
      split at e1
      · rename_i xs hx
        cases e1
        obtain ⟨a, hL, rfl⟩ := r1
        cases q : s1.os[n]? with
        | none => rw [q] at hx; cases hx
        | some ob =>
          rw [q] at hx
          cases R1.hr.ob n a ob hL q with
          | lst hl rl =>
            have ra := datas_rp rl hx
            have R2 := R1.next (R1.hr.kill (n := n)) .kill (Cf.kill (n := n))
            rw [List.append_nil] at R2
            refine k (.ref a) H1 L1 R2 (.lst (.inl hl) (fun z => ?_) (RpAll.mono R1.hr .kill ra)) (g1.trans .kill)
            rcases z with ⟨j, u, f1, f2, f3⟩ | z
            · have : j = n := R1.hr.inj j n a f1 hL
              subst this
              have f2 : (s1.os.set j .dead)[j]? = some u := f2
              rw [List.getElem?_set_self (List.getElem?_eq_some_iff.mp q).1] at f2
              exact f3 (Option.some.inj f2).symm
            · exact (R1.hr.pv a z).2 (List.mem_of_getElem? hL)
          | dead => cases hx
          | dK => cases hx
          | dN => cases hx
          | ins => cases hx
          | tab => cases hx
      · cases e1
    | .d x, r1, e1 => cases e1; exact k v H1 L1 R1 r1 g1
    | .exc x, r1, e1 => cases e1; exact k v H1 L1 R1 r1 g1
end FL
namespace FL
open PySem PySem.Spec PyProof.Rows L2
/-! ### short words for a generated proof -/
theorem hu64 {k : Nat} {A : Around} (r : Room k A) : A.units + 64 < cLine := r.units
theorem hu65 {k : Nat} {A : Around} (r : Room k A) : A.units + 65 < cLine := by have := r.un; omega
theorem onb {X : Cx} {g : G} {mg : Str → Option Value} {base : Heap} {s : Shared} {H : Hp} {sc : Scope} {env : Env} {fp : List Addr} (O : On X g mg base) : On (X.blk s H sc env fp) g mg base := ⟨O.p, O.w, O.k, O.m, O.b⟩
theorem takes_blk {X : Cx} {s : Shared} {H : Hp} {sc : Scope} {env : Env} {fp : List Addr} : Takes (X.blk s H sc env fp) (fun _ _ _ _ => False) := fun u s' ⟨_, _, _, _, _, _, _, _, _, _, _, _, _, _, _, _, z⟩ => z.elim
/-- names of Python's own that no module has taken -/
structure NoB (mg : Str → Option Value) : Prop where
  isinstance : mg "isinstance" = none
  len : mg "len" = none
  int : mg "int" = none
  bool : mg "bool" = none
  str : mg "str" = none
  tuple : mg "tuple" = none
  list : mg "list" = none
  dict : mg "dict" = none
  range : mg "range" = none
  enumerate : mg "enumerate" = none
  zip : mg "zip" = none
  min : mg "min" = none
  max : mg "max" = none
  abs : mg "abs" = none
  all : mg "all" = none
  any : mg "any" = none
  sum : mg "sum" = none
  sorted : mg "sorted" = none
  repr : mg "repr" = none
  set : mg "set" = none
/-- a constant of a module -/
structure Glo (g : G) (mg : Str → Option Value) (x : Str) (d : PyData) : Prop where
  ex : ∃ u v, mg x = some u ∧ RelV v u ∧ ∀ H A, Rp g.P g.w g.K H A v d
theorem f_glob {X : Cx} {B : Bs} {mg : Str → Option Value} {base : Heap} {x : Str} {d : PyData} {pos : Pos} (O : On X B.g mg base) (G : Glo B.g mg x d) (hg : Gl X x := by rfl) (hdb : (x == ("__debug__" : Str)) = false := by decide) : PE X (.Name x pos) (fE B (mC d)) := by
  obtain ⟨u, v, h1, h2, h3⟩ := G.ex
  exact f_const (pe_glob hg (by rw [O.m]; exact h1) h2 hdb) h3
/-- a, b = e, f with plain names -/
def mPar (i j : Nat) (ms : FM (List W)) : FM Fl := ms.bind fun ws s => match ws with
  | [w, u] => some (.ok .nx { s with sl := (s.sl.set i (some w)).set j (some u) })
  | _ => none
theorem fs_par {X : Cx} {B : Bs} {i j : Nat} {x y : Str} {a b : Expr} {ms : FM (List W)} {px py pt : Pos} {kt k2 pt2} {pos : Pos} (hc : X.calm = true) (hN : X.N.Nodup) (hi : X.N[i]? = some x) (hj : X.N[j]? = some y) (hij : i ≠ j)
    (hx : X.env.scope.names.lookup x = some .local) (hy : X.env.scope.names.lookup y = some .local) (ha : PA X [a, b] (fA B ms))
    (hw : swappedStores [.Tuple [.Name x px, .Name y py] kt pt] (.Tuple [a, b] k2 pt2) X.env = pure (some [x, y]) := by rfl)
    (hs : swapsWithSole [.Tuple [.Name x px, .Name y py] kt pt] (.Tuple [a, b] k2 pt2) pos.line X.env = pure false := by rfl) :
    PS X (.Assign [.Tuple [.Name x px, .Name y py] kt pt] (.Tuple [a, b] k2 pt2) pos) (fS B (mPar i j ms)) :=
  PS.imp (ps_par hc hN hi hj hij hx hy ha hw hs) fun D σ H ⟨L, s, o, R, e, k⟩ => by
    refine fA.bind R e k.ex fun ws s1 vs H1 L1 e1 R1 r1 g1 => ?_
    split at e1
    · cases e1
      obtain ⟨v, u, rfl, h1, h2⟩ := paired2 r1
      exact ⟨v, u, rfl, k _ H1 L1 ((R1.set h1).set (s := { s1 with sl := s1.sl.set i _ }) h2) g1⟩
    · cases e1
end FL
namespace FL
open PySem PySem.Spec PyProof.Rows L2
/-! ### keys of dicts -/
section
variable {X : Cx} {pins : List (Addr × Obj)} {σ : L2.St} {H : Hp} {s : Shared} {A : Addr → Prop} {P : Program} {w : World} {K : PySem.W.Frag}
mutual
theorem nest_ok (I : Inv X pins σ H s) (hK : X.K = K) : ∀ (x : PyData) (v : V) (u : Value) (k : NestedKey), Rp P w K H A v x → nkey x = some k → RelV v u → NestedIs s.heap k u
  | .none, _, _, _, r, e, rv => by cases r; cases e; cases rv; exact .none
  | .bool b, _, _, _, r, e, rv => by cases r; cases e; cases rv; exact .bool rfl
  | .int i, _, _, _, r, e, rv => by cases r; cases e; obtain ⟨t, rfl⟩ := rv; exact .int i t
  | .str x, _, _, _, r, e, rv => by cases r; cases e; obtain ⟨t, rfl⟩ := rv; exact .text x t
  | .tuple xs, _, _, k, r, e, rv => by
    cases r with
    | tup h r =>
      obtain ⟨its, rs, ⟨o, h1, h2, n, h3⟩, _⟩ := I.tuple (hK ▸ h)
      cases rv
      have e : (nkeys xs).map NestedKey.tup = some k := by rw [nkey] at e; exact e
      cases q : nkeys xs with
      | none => rw [q] at e; cases e
      | some ks =>
        rw [q] at e
        cases e
        exact .tup h1 h2 h3 (by simpa using nests_ok I hK xs _ _ _ r q rs)
  | .list xs, _, _, _, _, e, _ => by simp [nkey] at e
  | .dict xs, _, _, _, _, e, _ => by simp [nkey] at e
theorem nests_ok (I : Inv X pins σ H s) (hK : X.K = K) : ∀ (xs : List PyData) (vs : List V) (us : List Value) (ks : List NestedKey), RpAll P w K H A vs xs → nkeys xs = some ks → Vals vs us → NestedAll s.heap ks us
  | [], _, _, _, r, e, rv => by cases r; cases e; cases rv; exact .nil
  | x :: xs, _, _, _, r, e, rv => by
    cases r with
    | cons r rr =>
      cases rv with
      | cons v vv =>
        rw [nkeys] at e
        cases q1 : nkey x with
        | none => rw [q1] at e; cases e
        | some k =>
          cases q2 : nkeys xs with
          | none => rw [q1, q2] at e; cases e
          | some ks =>
            rw [q1, q2] at e
            cases e
            exact .cons (nest_ok I hK x _ _ k r q1 v) (nests_ok I hK xs _ _ ks rr q2 vv)
end
theorem keyN_is (I : Inv X pins σ H s) (hK : X.K = K) {x : PyData} {v : V} {u : Value} {k : NestedKey} (r : Rp P w K H A v x) (e : keyN x = some k) (rv : RelV v u) : ∃ b, v = .ref b ∧ u = .ref b ∧ (nestedKind X.prog X.w).is s.heap k b := by
  match x, e with
  | .tuple xs, e =>
    have e : ((nkeys xs).bind fun ks => if (NestedKey.tup ks).depth ≤ 8 then some (.tup ks) else none) = some k := e
    cases q : nkeys xs with
    | none => rw [q] at e; cases e
    | some ks =>
      rw [q] at e
      have e : (if (NestedKey.tup ks).depth ≤ 8 then some (NestedKey.tup ks) else none) = some k := e
      split at e
      · rename_i hd
        cases e
        have z := nest_ok I hK (.tuple xs) v u (.tup ks) r (by rw [nkey, q]; rfl) rv
        cases r with
        | tup h r =>
          cases rv
          exact ⟨_, rfl, rfl, z, hd⟩
      · cases e
theorem keyK_is {x : PyData} {v : V} {k : Key} (r : Rp P w K H A v x) (e : keyK x = some k) : v = kV k := by
  match x, e with
  | .int i, e => cases e; cases r; rfl
  | .str z, e => cases e; cases r; rfl
theorem keyK_of {x : PyData} {k : Key} (r : Rp P w K H A (kV k) x) : keyK x = some k := by
  cases k with
  | inl i =>
    generalize e : kV (.inl i) = v at r
    cases r <;> cases e
    rfl
  | inr i =>
    generalize e : kV (.inr i) = v at r
    cases r <;> cases e
    rfl
end
/-! ### what is found at a key -/
section
variable {κ : Type} [DecidableEq κ]
def valO (key : PyData → Option κ) (kvs : List (PyData × W)) (k : κ) : Option W := (kvs.find? fun q => decide (key q.1 = some k)).map (·.2)
def putO (key : PyData → Option κ) (kvs : List (PyData × W)) (k : κ) (x : PyData) (w : W) : List (PyData × W) := if (valO key kvs k).isSome = true then kvs.map (fun q => if key q.1 = some k then (q.1, w) else q) else kvs ++ [(x, w)]
theorem valO_nil {key : PyData → Option κ} {k : κ} : valO key [] k = none := rfl
theorem valO_hit {key : PyData → Option κ} {q : PyData × W} {r : List (PyData × W)} {k : κ} (e : key q.1 = some k) : valO key (q :: r) k = some q.2 := by
  unfold valO
  rw [List.find?_cons_of_pos (by simp [e])]
  rfl
theorem valO_miss {key : PyData → Option κ} {q : PyData × W} {r : List (PyData × W)} {k : κ} (e : ¬ key q.1 = some k) : valO key (q :: r) k = valO key r k := by
  unfold valO
  rw [List.find?_cons_of_neg (by simp [e])]
theorem valO_mem {key : PyData → Option κ} {kvs : List (PyData × W)} {k : κ} {w : W} (e : valO key kvs k = some w) : ∃ q ∈ kvs, q.2 = w ∧ key q.1 = some k := by
  unfold valO at e
  cases h : kvs.find? fun q => decide (key q.1 = some k) with
  | none => rw [h] at e; cases e
  | some q =>
    rw [h] at e
    exact ⟨q, List.mem_of_find?_eq_some h, Option.some.inj e, of_decide_eq_true (List.find?_some (p := fun q : PyData × W => decide (key q.1 = some k)) h)⟩
theorem putO_refs {key : PyData → Option κ} {kvs : List (PyData × W)} {k : κ} {x : PyData} {w : W} {p : Nat → Prop} (hw : w.ref p) (h : ∀ q ∈ kvs, q.2.ref p) : ∀ q ∈ putO key kvs k x w, q.2.ref p := by
  unfold putO
  split
  · intro q hq
    obtain ⟨z, hz, rfl⟩ := List.mem_map.mp hq
    split
    · exact hw
    · exact h z hz
  · intro q hq
    rcases List.mem_append.mp hq with hq | hq
    · exact h q hq
    · rw [List.mem_singleton.mp hq]; exact hw
theorem putO_len {key : PyData → Option κ} {kvs : List (PyData × W)} {k : κ} {x : PyData} {w : W} : (putO key kvs k x w).length ≤ kvs.length + 1 := by
  unfold putO
  split
  · rw [List.length_map]; omega
  · rw [List.length_append]; exact Nat.le_refl _
end
section
variable {g : G} {Pv : Addr → Prop} {L : List Addr} {os : List Ob} {H : Hp}
/-- ints and texts -/
theorem keysK {P : Program} {w : World} {K : PySem.W.Frag} {A : Addr → Prop} : ∀ {ks : List (Key × V)} {kvs : List (PyData × W)}, RpAll P w K H A (ks.map fun q => kV q.1) (kvs.map (·.1)) → kvs.map (fun q => keyK q.1) = ks.map fun q => some q.1
  | [], [], _ => rfl
  | k :: ks, q :: kvs, h => by
    cases h with
    | cons r t => rw [List.map_cons, List.map_cons, keysK t, keyK_of r]
theorem valK_ok {k : Key} : ∀ {ks : List (Key × V)} {kvs : List (PyData × W)}, kvs.map (fun q => keyK q.1) = ks.map (fun q => some q.1) → RpWs g Pv L os H (ks.map (·.2)) (kvs.map (·.2)) →
    (∃ v w, valO keyK kvs k = some w ∧ valV ks k = some v ∧ RpW g Pv L os H v w) ∨ (valO keyK kvs k = none ∧ valV ks k = none)
  | [], [], _, _ => .inr ⟨rfl, rfl⟩
  | p :: ks, q :: kvs, n, r => by
    rw [List.map_cons, List.map_cons] at n
    injection n with n1 n2
    cases r with
    | cons r rr =>
      by_cases e : p.1 = k
      · exact .inl ⟨p.2, q.2, valO_hit (by rw [n1, e]), valV_pos e, r⟩
      · rw [valO_miss (by rw [n1]; exact fun z => e (Option.some.inj z)), valV_neg e]
        exact valK_ok n2 rr
theorem anyK {k : Key} {ks : List (Key × V)} : (ks.any fun kv => decide (kv.1 = k)) = (valV ks k).isSome := valV_any k ks
theorem putK_ok {k : Key} {x : PyData} {v : V} {w : W} {ks : List (Key × V)} {kvs : List (PyData × W)} (rk : RpAll g.P g.w g.K H (fun a => live L os a ∨ Pv a) (ks.map fun q => kV q.1) (kvs.map (·.1))) (rx : Rp g.P g.w g.K H (fun a => live L os a ∨ Pv a) (kV k) x) (r : RpWs g Pv L os H (ks.map (·.2)) (kvs.map (·.2))) (rv : RpW g Pv L os H v w) :
    RpAll g.P g.w g.K H (fun a => live L os a ∨ Pv a) ((putK ks k v).map fun q => kV q.1) ((putO keyK kvs k x w).map (·.1)) ∧ RpWs g Pv L os H ((putK ks k v).map (·.2)) ((putO keyK kvs k x w).map (·.2)) := by
  have n := keysK rk
  unfold putK putO
  rw [anyK]
  rcases valK_ok (k := k) n r with ⟨v0, w0, e1, e2, _⟩ | ⟨e1, e2⟩
  · rw [e1, e2, if_pos Option.isSome_some, if_pos Option.isSome_some]
    clear e1 e2
    rw [List.map_map, List.map_map, List.map_map, List.map_map]
    have m1 : ks.map ((fun q : Key × V => kV q.1) ∘ fun kv => if kv.1 = k then (kv.1, v) else kv) = ks.map fun q => kV q.1 := by
      refine List.map_congr_left fun z _ => ?_
      show kV (if z.1 = k then (z.1, v) else z).1 = kV z.1
      split <;> rfl
    have m2 : kvs.map ((fun q : PyData × W => q.1) ∘ fun q => if keyK q.1 = some k then (q.1, w) else q) = kvs.map (·.1) := by
      refine List.map_congr_left fun z _ => ?_
      show (if keyK z.1 = some k then (z.1, w) else z).1 = z.1
      split <;> rfl
    rw [m1, m2]
    refine ⟨rk, ?_⟩
    clear m1 m2 rk
    induction ks generalizing kvs with
    | nil =>
      cases kvs with
      | nil => exact .nil
      | cons => cases n
    | cons p ks ih =>
      cases kvs with
      | nil => cases n
      | cons q kvs =>
        rw [List.map_cons, List.map_cons] at n
        injection n with n1 n2
        cases r with
        | cons r rr =>
          rw [List.map_cons, List.map_cons]
          refine .cons ?_ (ih rr n2)
          show RpW g Pv L os H (if p.1 = k then (p.1, v) else p).2 (if keyK q.1 = some k then (q.1, w) else q).2
          by_cases e : p.1 = k
          · rw [if_pos e, if_pos (by rw [n1, e])]; exact rv
          · rw [if_neg e, if_neg (by rw [n1]; exact fun z => e (Option.some.inj z))]; exact r
  · rw [e1, e2, if_neg (by simp), if_neg (by simp), List.map_append, List.map_append, List.map_append, List.map_append]
    exact ⟨RpAll.append rk (.cons rx .nil), RpWs.append r (.cons rv .nil)⟩
/-- tuples -/
abbrev TN (ks : List (NestedKey × Addr × V)) (xs : List (NestedKey × Addr × Value)) : Prop := Paired (fun p q => p.1 = q.1 ∧ p.2.1 = q.2.1 ∧ RelV p.2.2 q.2.2) ks xs
theorem dn_of {X : Cx} {pins : List (Addr × Obj)} {σ : L2.St} {s : Shared} {P : Program} {w : World} {A : Addr → Prop} (I : Inv X pins σ H s) (hK : X.K = g.K) {a : Addr} {ks : List (NestedKey × Addr × V)} {kvs : List (PyData × W)} (e : H a = some (dN X.prog X.w a ks))
    (r : RpAll P w g.K H A (ks.map fun q => V.ref q.2.1) (kvs.map (·.1))) (n : kvs.map (fun q => keyN q.1) = ks.map fun q => some q.1) : ks.length ≤ sizeLine ∧ (a == sysModules) = false ∧ ∃ xs, TN ks xs ∧ s.heap.DictOfH (nestedKind X.prog X.w) a xs := by
  obtain ⟨⟨z, hd, xs, t, o, es, ep, h1, h2, h3, h4, h5⟩, y1, y2⟩ := (show ObjOk X.prog X.w H s.heap a (dN X.prog X.w a ks) from I.hok a _ e)
  clear y1 y2
  refine ⟨z, hd, xs, t, o, es, ep, h1, h2, h3, h4, ?_, h5⟩
  clear z h1 h2 h3 h4 h5 e
  induction t generalizing kvs with
  | nil => exact fun x hx => nomatch hx
  | @cons p q ps qs h _ ih =>
    cases kvs with
    | nil => cases n
    | cons y kvs =>
      rw [List.map_cons, List.map_cons] at n r
      injection n with n1 n2
      cases r with
      | cons r rr =>
        intro x hx
        rcases List.mem_cons.mp hx with rfl | hx
        · obtain ⟨b, e1, e2, e3⟩ := keyN_is (u := .ref p.2.1) I hK r n1 rfl
          cases e2
          rw [← h.1, ← h.2.1]
          exact e3
        · exact ih rr n2 x hx
theorem valN_ok {k : NestedKey} : ∀ {ks : List (NestedKey × Addr × V)} {kvs : List (PyData × W)} {xs : List (NestedKey × Addr × Value)}, TN ks xs → kvs.map (fun q => keyN q.1) = ks.map (fun q => some q.1) → RpWs g Pv L os H (ks.map (·.2.2)) (kvs.map (·.2)) →
    (∃ v w u b, valO keyN kvs k = some w ∧ atKey xs k = some (b, u) ∧ RelV v u ∧ RpW g Pv L os H v w) ∨ (valO keyN kvs k = none ∧ atKey xs k = none)
  | [], [], _, .nil, _, _ => .inr ⟨rfl, rfl⟩
  | p :: ks, q :: kvs, x :: xs, .cons h t, n, r => by
    rw [List.map_cons, List.map_cons] at n
    injection n with n1 n2
    cases r with
    | cons r rr =>
      by_cases e : p.1 = k
      · refine .inl ⟨p.2.2, q.2, x.2.2, x.2.1, valO_hit (by rw [n1, e]), ?_, h.2.2, r⟩
        unfold atKey
        rw [List.find?_cons_of_pos (by rw [← h.1]; exact decide_eq_true e)]
        rfl
      · have e2 : atKey (x :: xs) k = atKey xs k := by
          unfold atKey
          rw [List.find?_cons_of_neg (by rw [← h.1]; simpa using e)]
        rw [valO_miss (by rw [n1]; exact fun z => e (Option.some.inj z)), e2]
        exact valN_ok t n2 rr
end
end FL
namespace FL
open PySem PySem.Spec PyProof.Rows L2
/-! ### d[k], k in d, d[k] = v -/
def getO : Option Ob → PyData → Option W
  | some (.dct kvs), x => (keyK x).bind fun k => valO keyK kvs k
  | some (.dcn kvs), x => (keyN x).bind fun k => valO keyN kvs k
  | _, _ => none
def hasO : Option Ob → PyData → Option Bool
  | some (.dct kvs), x => (keyK x).map fun k => (valO keyK kvs k).isSome
  | some (.dcn kvs), x => (keyN x).map fun k => (valO keyN kvs k).isSome
  | _, _ => none
def setO : Option Ob → PyData → W → Option Ob
  | some (.dct kvs), x, w => if kvs.length < big then (keyK x).map fun k => .dct (putO keyK kvs k x w) else none
  | some (.dcn kvs), x, w => if kvs.length < big then (keyN x).map fun k => .dcn (putO keyN kvs k x w) else none
  | _, _, _ => none
def gDix (os : List Ob) (w u : W) : Option W := match w, u with
  | .obj n, .d x => getO os[n]? x
  | _, _ => none
/-- a[b] of a sequence or of a dict -/
def gIxA (os : List Ob) (w u : W) : Option W := match gDix os w u with
  | some r => some r
  | none => gIx os w u
def gDin (os : List Ob) (w u : W) : Option Bool := match w, u with
  | .d x, .obj n => hasO os[n]? x
  | _, _ => none
/-- a in b, b a sequence or a dict -/
def gInA (neg : Bool) (os : List Ob) (w u : W) : Option W := match gDin os w u with
  | some b => some (.d (.bool (b != neg)))
  | none => gIn neg os w u
def stDct (os : List Ob) (o i v : W) : Option (List Ob × List Nat) := match o, i with
  | .obj n, .d x => (setO os[n]? x v).map fun ob => (os.set n ob, esOf n v)
  | _, _ => none
def stAny (os : List Ob) (o i v : W) : Option (List Ob × List Nat) := match stDct os o i v with
  | some r => some r
  | none => stList os o i v
theorem room_nest {X : Cx} (hu : X.A.units + 64 < cLine) : (nestedKind X.prog X.w).room X.A.in1 := by
  show X.A.units + 1 + 8 < cLine
  omega
section
variable {X : Cx} {B : Bs} {mg : Str → Option Value} {base : Heap}
theorem dN_eq {a : Addr} {ks : List (NestedKey × Addr × V)} {H : Hp} (O : On X B.g mg base) (e : H a = some (dN B.g.P B.g.w a ks)) : H a = some (dN X.prog X.w a ks) := by rw [O.p, O.w]; exact e
theorem ixD_ok (O : On X B.g mg base) (hu : X.A.units + 64 < cLine) : IxR X (rF2 B gDix) := fun value slice pins s σ H x y v u Q I rx ry ⟨L, os, w, u', r, R, rw_, ru, e, k⟩ hs => by
  match w, rw_, u', ru, e with
  | .obj n, rw_, .d z, ru, e =>
    have e : getO os[n]? z = some r := e
    obtain ⟨a, hL, rfl⟩ := rw_
    obtain rfl : v = Value.ref a := rx
    cases ho : os[n]? with
    | none => rw [ho] at e; cases e
    | some ob =>
      rw [ho] at e
      cases R.ob n a ob hL ho with
      | @dK ks kvs h rk q =>
        have e : ((keyK z).bind fun k => valO keyK kvs k) = some r := e
        cases hz : keyK z with
        | none => rw [hz] at e; cases e
        | some kk =>
          rw [hz] at e
          have e : valO keyK kvs kk = some r := e
          have ey := keyK_is (show Rp _ _ _ _ _ y z from ru) hz
          rcases valK_ok (k := kk) (keysK rk) q with ⟨v0, w0, e1, e2, e3⟩ | ⟨e1, _⟩
          · rw [e] at e1
            cases e1
            have gd : DGet H a y (some v0) := by rw [ey, ← e2]; exact .k h
            exact tail_any (dict_typeIs I gd) PySem.F.slot_dict_getitem.lookup (d_getItem (by omega) I gd ry fun w' s' I' rw' => ⟨v0, H, I', rw', k v0 H (Same.refl H) e3⟩) hs
          · rw [e] at e1; cases e1
      | @dN ks kvs h rk nn q =>
        have e : ((keyN z).bind fun k => valO keyN kvs k) = some r := e
        cases hz : keyN z with
        | none => rw [hz] at e; cases e
        | some kk =>
          rw [hz] at e
          have e : valO keyN kvs kk = some r := e
          obtain ⟨b, e1, e2, hk⟩ := keyN_is I O.k (show Rp _ _ _ _ _ y z from ru) hz ry
          subst e1 e2
          obtain ⟨zl, hd, xs, t, dd⟩ := dn_of I O.k (dN_eq O h) rk nn
          rcases valN_ok (k := kk) t nn q with ⟨v0, w0, u0, b0, e1, e2, e3, e4⟩ | ⟨e1, _⟩
          · rw [e] at e1
            cases e1
            exact tail_any dd.typeIs PySem.F.slot_dict_getitem.lookup (wpAny_getItem_heap (room_nest hu) hk dd e2 ⟨v0, H, I.tok _, e3, k v0 H (Same.refl H) e4⟩) hs
          · rw [e] at e1; cases e1
      | lst => cases e
      | dead => cases e
      | ins => cases e
      | tab => cases e
theorem rF2.or {f f' h : List Ob → W → W → Option W} (q : ∀ os w u r, h os w u = some r → f os w u = some r ∨ f' os w u = some r) {x y : V} {H : Hp} {Q : VK} : rF2 B h x y H Q → rF2 B f x y H Q ∨ rF2 B f' x y H Q
  | ⟨L, os, w, u, r, R, a, b, e, k⟩ => (q os w u r e).imp (fun e => ⟨L, os, w, u, r, R, a, b, e, k⟩) fun e => ⟨L, os, w, u, r, R, a, b, e, k⟩
theorem ixA_ok (O : On X B.g mg base) (hu : X.A.units + 64 < cLine) : IxR X (rF2 B gIxA) := IxR.imp ((ixD_ok O hu).or (ix_ok O.k)) fun x y H Q h => rF2.or (fun os w u r e => by
  unfold gIxA at e
  split at e
  · cases e; exact .inl (by assumption)
  · exact .inr e) h
theorem inD_ok (O : On X B.g mg base) (hu : X.A.units + 64 < cLine) : OpR X (compareOp .In) (rF2 B fun os w u => (gDin os w u).map fun b => .d (.bool b)) := fun pins s σ H x y v u Q I rx ry ⟨L, os, w, u', r, R, rw_, ru, e, k⟩ => by
  match w, rw_, u', ru, e with
  | .d z, rw_, .obj n, ru, e =>
    have e : (hasO os[n]? z).map (fun b => W.d (.bool b)) = some r := e
    obtain ⟨a, hL, rfl⟩ := ru
    obtain rfl : u = Value.ref a := ry
    cases ho : os[n]? with
    | none => rw [ho] at e; cases e
    | some ob =>
      rw [ho] at e
      cases R.ob n a ob hL ho with
      | @dK ks kvs h rk q =>
        have e : ((keyK z).map fun k => (valO keyK kvs k).isSome).map (fun b => W.d (.bool b)) = some r := e
        cases hz : keyK z with
        | none => rw [hz] at e; cases e
        | some kk =>
          rw [hz] at e
          cases e
          have ey := keyK_is (show Rp _ _ _ _ _ x z from rw_) hz
          have gd : DGet H a x (valV ks kk) := by rw [ey]; exact .k h
          have eb : (valV ks kk).isSome = (valO keyK kvs kk).isSome := by
            rcases valK_ok (k := kk) (keysK rk) q with ⟨v0, w0, e1, e2, e3⟩ | ⟨e1, e2⟩ <;> rw [e1, e2] <;> rfl
          exact d_in (by omega) I gd rx fun s' I' => ⟨.bl _, H, I', by rw [eb]; rfl, k _ H (Same.refl H) (Rp.bl _)⟩
      | @dN ks kvs h rk nn q =>
        have e : ((keyN z).map fun k => (valO keyN kvs k).isSome).map (fun b => W.d (.bool b)) = some r := e
        cases hz : keyN z with
        | none => rw [hz] at e; cases e
        | some kk =>
          rw [hz] at e
          cases e
          obtain ⟨b, e1, e2, hk⟩ := keyN_is I O.k (show Rp _ _ _ _ _ x z from rw_) hz rx
          subst e1 e2
          obtain ⟨zl, hd, xs, t, dd⟩ := dn_of I O.k (dN_eq O h) rk nn
          have eb : (atKey xs kk).isSome = (valO keyN kvs kk).isSome := by
            rcases valN_ok (k := kk) t nn q with ⟨v0, w0, u0, b0, e1, e2, e3, e4⟩ | ⟨e1, e2⟩ <;> rw [e1, e2] <;> rfl
          exact wpAny_in_heap (room_nest hu) hk hd dd ⟨.bl _, H, I.tok _, by rw [eb]; rfl, k _ H (Same.refl H) (Rp.bl _)⟩
      | lst => cases e
      | dead => cases e
      | ins => cases e
      | tab => cases e
theorem notInD_ok (O : On X B.g mg base) (hu : X.A.units + 64 < cLine) : OpR X (compareOp .NotIn) (rF2 B fun os w u => (gDin os w u).map fun b => .d (.bool (!b))) := fun pins s σ H x y v u Q I rx ry ⟨L, os, w, u', r, R, rw_, ru, e, k⟩ => by
  match w, rw_, u', ru, e with
  | .d z, rw_, .obj n, ru, e =>
    have e : (hasO os[n]? z).map (fun b => W.d (.bool (!b))) = some r := e
    obtain ⟨a, hL, rfl⟩ := ru
    obtain rfl : u = Value.ref a := ry
    cases ho : os[n]? with
    | none => rw [ho] at e; cases e
    | some ob =>
      rw [ho] at e
      cases R.ob n a ob hL ho with
      | @dK ks kvs h rk q =>
        have e : ((keyK z).map fun k => (valO keyK kvs k).isSome).map (fun b => W.d (.bool (!b))) = some r := e
        cases hz : keyK z with
        | none => rw [hz] at e; cases e
        | some kk =>
          rw [hz] at e
          cases e
          have ey := keyK_is (show Rp _ _ _ _ _ x z from rw_) hz
          have gd : DGet H a x (valV ks kk) := by rw [ey]; exact .k h
          have eb : (valV ks kk).isSome = (valO keyK kvs kk).isSome := by
            rcases valK_ok (k := kk) (keysK rk) q with ⟨v0, w0, e1, e2, e3⟩ | ⟨e1, e2⟩ <;> rw [e1, e2] <;> rfl
          exact d_notIn (by omega) I gd rx fun s' I' => ⟨.bl _, H, I', by rw [eb]; rfl, k _ H (Same.refl H) (Rp.bl _)⟩
      | @dN ks kvs h rk nn q =>
        have e : ((keyN z).map fun k => (valO keyN kvs k).isSome).map (fun b => W.d (.bool (!b))) = some r := e
        cases hz : keyN z with
        | none => rw [hz] at e; cases e
        | some kk =>
          rw [hz] at e
          cases e
          obtain ⟨b, e1, e2, hk⟩ := keyN_is I O.k (show Rp _ _ _ _ _ x z from rw_) hz rx
          subst e1 e2
          obtain ⟨zl, hd, xs, t, dd⟩ := dn_of I O.k (dN_eq O h) rk nn
          have eb : (atKey xs kk).isSome = (valO keyN kvs kk).isSome := by
            rcases valN_ok (k := kk) t nn q with ⟨v0, w0, u0, b0, e1, e2, e3, e4⟩ | ⟨e1, e2⟩ <;> rw [e1, e2] <;> rfl
          exact wpAny_notIn_heap (room_nest hu) hk hd dd ⟨.bl _, H, I.tok _, by rw [eb]; rfl, k _ H (Same.refl H) (Rp.bl _)⟩
      | lst => cases e
      | dead => cases e
      | ins => cases e
      | tab => cases e
theorem inA_ok (O : On X B.g mg base) (hr : X.A.units + 65 < cLine) : OpR X (compareOp .In) (rF2 B (gInA false)) := OpR.imp ((inD_ok O (by omega)).or (in_ok O.k hr)) fun x y H Q h => rF2.or (fun os w u r e => by
  unfold gInA at e
  split at e
  · rename_i b hb
    cases e
    exact .inl (by rw [hb]; cases b <;> rfl)
  · exact .inr e) h
theorem notInA_ok (O : On X B.g mg base) (hr : X.A.units + 65 < cLine) : OpR X (compareOp .NotIn) (rF2 B (gInA true)) := OpR.imp ((notInD_ok O (by omega)).or (notIn_ok O.k hr)) fun x y H Q h => rF2.or (fun os w u r e => by
  unfold gInA at e
  split at e
  · rename_i b hb
    cases e
    exact .inl (by rw [hb]; cases b <;> rfl)
  · exact .inr e) h
end
/-! ### storing -/
def putT (ks : List (NestedKey × Addr × V)) (k : NestedKey) (b : Addr) (v : V) (old : Bool) : List (NestedKey × Addr × V) := if old = true then ks.map (fun q => if q.1 = k then (q.1, q.2.1, v) else q) else ks ++ [(k, b, v)]
section
variable {g : G} {Pv : Addr → Prop} {L : List Addr} {os : List Ob} {H : Hp}
theorem putN_ok {k : NestedKey} {b : Addr} {u : Value} {x : PyData} {v : V} {w : W} {ks : List (NestedKey × Addr × V)} {kvs : List (PyData × W)} {xs : List (NestedKey × Addr × Value)} (t : TN ks xs) (n : kvs.map (fun q => keyN q.1) = ks.map (fun q => some q.1))
    (rk : RpAll g.P g.w g.K H (fun a => live L os a ∨ Pv a) (ks.map fun q => V.ref q.2.1) (kvs.map (·.1))) (rx : Rp g.P g.w g.K H (fun a => live L os a ∨ Pv a) (.ref b) x) (hx : keyN x = some k) (r : RpWs g Pv L os H (ks.map (·.2.2)) (kvs.map (·.2))) (rv : RpW g Pv L os H v w) (ru : RelV v u) :
    ∃ ks', TN ks' (storedH xs k b u) ∧ ks'.length ≤ ks.length + 1 ∧ (putO keyN kvs k x w).map (fun q => keyN q.1) = ks'.map (fun q => some q.1) ∧ RpAll g.P g.w g.K H (fun a => live L os a ∨ Pv a) (ks'.map fun q => V.ref q.2.1) ((putO keyN kvs k x w).map (·.1)) ∧ RpWs g Pv L os H (ks'.map (·.2.2)) ((putO keyN kvs k x w).map (·.2)) := by
  unfold putO storedH
  rcases valN_ok (k := k) t n r with ⟨v0, w0, u0, b0, e1, e2, _⟩ | ⟨e1, e2⟩
  · rw [e1, e2, if_pos Option.isSome_some, if_pos Option.isSome_some]
    clear e1 e2
    refine ⟨ks.map fun q => if q.1 = k then (q.1, q.2.1, v) else q, ?_, by rw [List.length_map]; omega, ?_, ?_, ?_⟩
    · clear rk r n
      induction t with
      | nil => exact .nil
      | @cons p q ps qs h _ ih =>
        rw [List.map_cons, List.map_cons]
        refine .cons ?_ ih
        unfold putAt
        by_cases e : p.1 = k
        · rw [if_pos e, if_pos (by rw [← h.1, e])]; exact ⟨h.1, h.2.1, ru⟩
        · rw [if_neg e, if_neg (by rw [← h.1]; exact e)]; exact h
    · rw [List.map_map, List.map_map]
      have m1 : kvs.map ((fun q : PyData × W => keyN q.1) ∘ fun q => if keyN q.1 = some k then (q.1, w) else q) = kvs.map fun q => keyN q.1 := List.map_congr_left fun z _ => by
        show keyN (if keyN z.1 = some k then (z.1, w) else z).1 = keyN z.1
        split <;> rfl
      have m2 : ks.map ((fun q : NestedKey × Addr × V => some q.1) ∘ fun q => if q.1 = k then (q.1, q.2.1, v) else q) = ks.map fun q => some q.1 := List.map_congr_left fun z _ => by
        show some (if z.1 = k then (z.1, z.2.1, v) else z).1 = some z.1
        split <;> rfl
      rw [m1, m2, n]
    · rw [List.map_map, List.map_map]
      have m1 : kvs.map ((fun q : PyData × W => q.1) ∘ fun q => if keyN q.1 = some k then (q.1, w) else q) = kvs.map (·.1) := List.map_congr_left fun z _ => by
        show (if keyN z.1 = some k then (z.1, w) else z).1 = z.1
        split <;> rfl
      have m2 : ks.map ((fun q : NestedKey × Addr × V => V.ref q.2.1) ∘ fun q => if q.1 = k then (q.1, q.2.1, v) else q) = ks.map fun q => V.ref q.2.1 := List.map_congr_left fun z _ => by
        show V.ref (if z.1 = k then (z.1, z.2.1, v) else z).2.1 = V.ref z.2.1
        split <;> rfl
      rw [m1, m2]
      exact rk
    · clear t rk
      induction ks generalizing kvs with
      | nil =>
        cases kvs with
        | nil => exact .nil
        | cons => cases n
      | cons p ks ih =>
        cases kvs with
        | nil => cases n
        | cons q kvs =>
          rw [List.map_cons, List.map_cons] at n
          injection n with n1 n2
          cases r with
          | cons r rr =>
            rw [List.map_cons, List.map_cons, List.map_cons, List.map_cons]
            refine .cons ?_ (ih n2 rr)
            by_cases e : p.1 = k
            · rw [if_pos e, if_pos (by rw [n1, e])]; exact rv
            · rw [if_neg e, if_neg (by rw [n1]; exact fun z => e (Option.some.inj z))]; exact r
  · rw [e1, e2, if_neg (by simp), if_neg (by simp)]
    refine ⟨ks ++ [(k, b, v)], ?_, by rw [List.length_append]; exact Nat.le_refl _, ?_, ?_, ?_⟩
    · clear rk r n e1 e2
      induction t with
      | nil => exact .cons ⟨rfl, rfl, ru⟩ .nil
      | cons h _ ih => exact .cons h ih
    · rw [List.map_append, List.map_append, n, List.map_cons, List.map_cons, hx]; rfl
    · rw [List.map_append, List.map_append]; exact RpAll.append rk (.cons rx .nil)
    · rw [List.map_append, List.map_append]; exact RpWs.append r (.cons rv .nil)
end
section
variable {X : Cx} {B : Bs} {mg : Str → Option Value} {base : Heap}
theorem setO_refs {o ob : Ob} {x : PyData} {w : W} {p : Nat → Prop} (h : setO (some o) x w = some ob) (ho : o.refs p) (hw : w.ref p) : ob.refs p ∧ ob ≠ .dead ∧ o ≠ .dead ∧ ∀ q, ob ≠ .tab q := by
  cases o with
  | dct kvs =>
    have h : (if kvs.length < big then (keyK x).map fun k => Ob.dct (putO keyK kvs k x w) else none) = some ob := h
    split at h
    · cases q : keyK x with
      | none => rw [q] at h; cases h
      | some k => rw [q] at h; cases h; exact ⟨putO_refs hw ho, (by intro z; cases z), (by intro z; cases z), (by intro q z; cases z)⟩
    · cases h
  | dcn kvs =>
    have h : (if kvs.length < big then (keyN x).map fun k => Ob.dcn (putO keyN kvs k x w) else none) = some ob := h
    split at h
    · cases q : keyN x with
      | none => rw [q] at h; cases h
      | some k => rw [q] at h; cases h; exact ⟨putO_refs hw ho, (by intro z; cases z), (by intro z; cases z), (by intro q z; cases z)⟩
    · cases h
  | lst => cases h
  | dead => cases h
  | ins => cases h
  | tab => cases h
theorem setD_ok (O : On X B.g mg base) (hu : X.A.units + 64 < cLine) : PSet X (rSt B stDct) := fun pins s σ H o i v ov iv u Q I ro ri rv ⟨L, os, wo, wi, wv, os', es, R, rwo, rwi, rwv, e, k⟩ => by
  match wo, rwo, wi, rwi, e with
  | .obj n, rwo, .d z, rwi, e =>
    have e : (setO os[n]? z wv).map (fun ob => (os.set n ob, esOf n wv)) = some (os', es) := e
    obtain ⟨a, hL, rfl⟩ := rwo
    obtain rfl : ov = Value.ref a := ro
    cases ho : os[n]? with
    | none => rw [ho] at e; cases e
    | some old =>
      rw [ho] at e
      cases hs : setO (some old) z wv with
      | none => rw [hs] at e; cases e
      | some ob =>
        rw [hs] at e
        cases e
        obtain ⟨wf1, nd1, nd2, nt⟩ := setO_refs hs (R.wf n old ho) (RpW.lt R rwv)
        have cf : Cf os (os.set n ob) (esOf n wv) := Cf.set' ho (by
          by_cases hw : n ∈ esOf n wv
          · exact .inl hw
          · exact .inr fun m hm => (setO_refs hs hm (esOf_ok hw)).1)
        have gr : ∀ hob, Gr L os H L (os.set n ob) (upd H a hob) := fun hob => Gr.set hL ho nd2 nd1
        cases R.ob n a old hL ho with
        | @dK ks kvs h rk q =>
          have hs : (if kvs.length < big then (keyK z).map fun k => Ob.dct (putO keyK kvs k z wv) else none) = some ob := hs
          split at hs
          · rename_i hb
            cases hz : keyK z with
            | none => rw [hz] at hs; cases hs
            | some kk =>
              rw [hz] at hs
              cases hs
              have ey := keyK_is (show Rp _ _ _ _ _ i z from rwi) hz
              have hlen : ks.length = kvs.length := by
                have := congrArg List.length (keysK rk)
                rw [List.length_map, List.length_map] at this
                exact this.symm
              have gp : DPut H a i v (upd H a (.dK (putK ks kk v))) := by
                rw [ey]
                exact .k h (by have := sizeLine_eq; unfold big at hb; omega)
              have rx : Rp B.g.P B.g.w B.g.K H (fun a => live L os a ∨ B.Pv a) (kV kk) z := by rw [← ey]; exact rwi
              obtain ⟨p1, p2⟩ := putK_ok rk rx q rwv
              exact d_setItem (by omega) I gp ri rv fun s' I' => ⟨_, I', k _ L (R.set hL ho nd2 nd1 wf1 (.dK upd_same (RpAll.mono R (gr _) p1) (RpWs.mono R (gr _) p2)) nt nt_dK) (gr _) cf⟩
          · cases hs
        | @dN ks kvs h rk nn q =>
          have hs : (if kvs.length < big then (keyN z).map fun k => Ob.dcn (putO keyN kvs k z wv) else none) = some ob := hs
          split at hs
          · rename_i hb
            cases hz : keyN z with
            | none => rw [hz] at hs; cases hs
            | some kk =>
              rw [hz] at hs
              cases hs
              obtain ⟨b, e1, e2, hk⟩ := keyN_is I O.k (show Rp _ _ _ _ _ i z from rwi) hz ri
              subst e1 e2
              obtain ⟨zl, hd, xs, t, dd⟩ := dn_of I O.k (dN_eq O h) rk nn
              have hlen : ks.length = kvs.length := by
                have := congrArg List.length nn
                rw [List.length_map, List.length_map] at this
                exact this.symm
              have hl2 : ks.length < sizeLine := by have := sizeLine_eq; unfold big at hb; omega
              obtain ⟨ks', t2, l2, n2, r2, q2⟩ := putN_ok t nn rk rwi hz q rwv rv
              refine wpAny_setItem_heap (hsz := by rw [← Paired.length t]; exact zl) (room_nest hu) hk dd fun h' dd' sb => ?_
              obtain ⟨o', es', ep', f1, f2, f3, f4, _, f5⟩ := dd'
              have new : ObjOk X.prog X.w (upd H a (dN X.prog X.w a ks')) h' a (dN X.prog X.w a ks') := ⟨⟨by omega, hd, _, t2, o', es', ep', f1, f2, f3, f4, f5⟩, ⟨_, f1⟩, fun h1 h2 ⟨z, hd, xs, t, o, es, ep, e1, e2⟩ kk => ⟨z, hd, xs, t, o, es, ep, kk _ e1, e2⟩⟩
              have I' : Inv X pins σ (upd H a (dN X.prog X.w a ks')) { s with heap := h', toks := s.toks + (nestedKind X.prog X.w).draws kk } := d_write I (by rw [dN_eq O h]; exact True.intro) sb ⟨_, f1⟩ new
              exact ⟨_, I', k _ L (R.set hL ho nd2 nd1 wf1 (.dN (by rw [upd_same, O.p, O.w]) (RpAll.mono R (gr _) r2) n2 (RpWs.mono R (gr _) q2)) nt nt_ext) (gr _) cf⟩
          · cases hs
        | lst => cases hs
        | dead => cases hs
        | ins => cases hs
        | tab => cases hs
theorem setA_ok (O : On X B.g mg base) (hu : X.A.units + 64 < cLine) : PSet X (rSt B stAny) := fun pins s σ H o i v ov iv u Q I ro ri rv ⟨L, os, wo, wi, wv, os', es, R, rwo, rwi, rwv, e, k⟩ => by
  unfold stAny at e
  split at e
  · rename_i r hr
    cases e
    exact setD_ok O hu pins s σ H o i v ov iv u Q I ro ri rv ⟨L, os, wo, wi, wv, os', es, R, rwo, rwi, rwv, hr, k⟩
  · exact setL_ok pins s σ H o i v ov iv u Q I ro ri rv ⟨L, os, wo, wi, wv, os', es, R, rwo, rwi, rwv, e, k⟩
end
end FL
namespace FL
open PySem PySem.Spec PyProof.Rows L2
/-! ### a new object -/
/-- what stands at D becomes an object -/
theorem RS.adoptO {B : Bs} {L : List Addr} {s : AS} {σ : L2.St} {H : Hp} {D : Addr} {o : Ob} {ho : HO} (R : RS (B.inC D) L s σ H) (np : ¬ B.Pv D) (h0 : BN B.H D) (hD : H D = some ho) (hb : Box ho) (hw : o.refs (· < s.os.length)) (r : ObR B.g (B.inC D).Pv L s.os H D o) (nt : ∀ q, o ≠ .tab q) :
    RS B (L ++ [D]) { s with os := s.os ++ [o] } σ H := by
  have lv : ∀ a, live (L ++ [D]) (s.os ++ [o]) a → live L s.os a ∨ a = D := fun a z => live_push R.hr.len z
  refine ⟨R.hr.adopt np ⟨_, hD, box_nt hb⟩ hw r nt, R.len, fun i w e => ?_, ⟨fun n a e => get_push.mpr (.inl (R.gr.pre n a e)), ?_, fun a u t e n => ⟨(R.gr.keep a u t e n).1, fun z => (lv a z).elim (R.gr.keep a u t e n).2 fun q => ?_⟩⟩, ?_⟩
  · obtain ⟨v, e1, rw_⟩ := R.sl i w e
    refine ⟨v, e1, ?_⟩
    cases w with
    | d x => exact Rp.stay (g := B.g) ⟨fun _ _ q => q, fun _ _ _ q _ => q, fun _ _ _ q _ => q, fun a o _ e n z => z.elim (fun q => (lv a q).elim (fun q => n (.inl q)) fun q => n (.inr (.inl q))) fun q => n (.inr (.inr q))⟩ _ _ rw_
    | obj n => obtain ⟨a, e, r⟩ := rw_; exact ⟨a, get_push.mpr (.inl e), r⟩
    | exc e =>
      obtain ⟨a, cls, d, e1, n, q, C, dx, fs, h1, h2, h3, h4, h5⟩ := rw_
      refine ⟨a, cls, d, e1, fun z => z.elim (fun z => (lv a z).elim (fun z => n (.inl z)) fun z => n (.inr (.inl z))) fun z => n (.inr (.inr z)), q, C, dx, fs, h1, h2, h3, h4, fun f v q => let ⟨u, q1, q2⟩ := h5 f v q; ⟨u, q1, Rp.stay (g := B.g) ⟨fun _ _ q => q, fun _ _ _ q _ => q, fun _ _ _ q _ => q, fun a o _ e n z => z.elim (fun q => (lv a q).elim (fun q => n (.inl q)) fun q => n (.inr (.inl q))) fun q => n (.inr (.inr q))⟩ _ _ q2⟩⟩
  · rw [List.length_append]; exact Nat.le_trans R.gr.len (Nat.le_add_right _ _)
  · exact h0 u (by rw [← q]; exact e) t
  · have c := Cf.trans R.cf R.gr.len (Cf.push (os := s.os) (o := o))
    rw [List.append_nil] at c
    exact c
theorem Gr.adopt {B : Bs} {L L2 : List Addr} {os os2 : List Ob} {H H2 : Hp} {D : Addr} {o : Ob} (g : Gr L os H L2 os2 H2) (hl : L2.length = os2.length) (hD : H D = none) : Gr L os H (L2 ++ [D]) (os2 ++ [o]) H2 :=
  ⟨fun n a e => get_push.mpr (.inl (g.pre n a e)), by rw [List.length_append]; exact Nat.le_trans g.len (Nat.le_add_right _ _), fun a u t e n => ⟨(g.keep a u t e n).1, fun z => (live_push hl z).elim (g.keep a u t e n).2 fun q => by rw [q, hD] at e; cases e⟩⟩
def mNew (o : Ob) : FM W := fun s => some (.ok (.obj s.os.length) { s with os := s.os ++ [o] })
def tNewN (P : Program) (w : World) : TE := fun _ H Q => ∀ p, H p = none → Q (.ref p) (upd H p (dN P w p []))
theorem dN_st {P : Program} {w : World} {a : Addr} {ks : List (NestedKey × Addr × V)} {φ : Heap → Prop} (e : dN P w a ks = .ext φ) : ∀ h1 h2 : Heap, φ h1 → (∀ o, h1.get? a = some o → h2.get? a = some o) → φ h2 := by
  injection e with e
  subst e
  exact fun h1 h2 ⟨z, hd, xs, t, o, es, ep, e1, e2⟩ k => ⟨z, hd, xs, t, o, es, ep, k _ e1, e2⟩
theorem dN_empty {P : Program} {w : World} {H : Hp} {h : Heap} (hb : sysModules < h.objs.size) : ObjOk P w H (h.push { cls := .type "dict", data := .dict #[] }) h.objs.size (dN P w h.objs.size []) := by
  have g : (h.push { cls := .type "dict", data := .dict #[] }).get? h.objs.size = some { cls := .type "dict", data := .dict #[] } := Heap.get?_push_size _ rfl
  exact ⟨⟨Nat.zero_le _, beq_eq_false_iff_ne.mpr fun z => Nat.lt_irrefl _ (z ▸ hb), [], .nil, _, #[], 0, g, ⟨rfl, rfl, rfl⟩, rfl, rfl, .nil⟩, ⟨_, g⟩, dN_st rfl⟩
section
variable {X : Cx} {B : Bs} {pos : Pos} {mg : Str → Option Value} {base : Heap}
theorem pe_newN : PE X (.Dict [] [] pos) (tNewN X.prog X.w) := by
  refine ⟨fun pins s σ H Q I h => wpAny_Dict_empty ?_⟩
  have n0 : H s.heap.objs.size = none := I.hok.fresh (Nat.le_refl _)
  exact ⟨.ref s.heap.objs.size, _, I.laid (a := s.heap.objs.size) (o := dN X.prog X.w s.heap.objs.size []) (t' := s.toks) (fun _ _ q => Heap.get?_push_of_some _ q) (Nat.le_refl _) (dN_empty I.big), rfl, h _ n0⟩
theorem new_run {σ : L2.St} {H : Hp} {Q : VK} {o : Ob} {ho : HO} {p : Addr} (hp : H p = none) (tn : NT ho) (hob : ∀ L os H', H' p = some ho → ObR B.g B.Pv L os H' p o) (hw : ∀ n, o.refs (· < n)) (nt : ∀ q, o ≠ .tab q) (h : fE B (mNew o) σ H Q) : Q (.ref p) (upd H p ho) := by
  obtain ⟨L, s, oc, R, e, k⟩ := h
  cases e
  have sm : Same H (upd H p ho) := new_same hp
  have gr := Gr.push (o := o) R.hr hp sm
  have R2 := R.next (R.hr.push (o := o) hp sm (hw _) ⟨_, upd_same, tn⟩ (hob _ _ _ upd_same) nt) gr (Cf.push (o := o))
  rw [List.append_nil] at R2
  exact k (.ref p) _ (L ++ [p]) R2 ⟨p, get_push.mpr (.inr ⟨R.hr.len.symm, rfl⟩), rfl⟩ gr
/-- {}, a dict of ints and texts; of tuples; one that nobody will change -/
theorem f_dict0K : PE X (.Dict [] [] pos) (fE B (mNew (.dct []))) := PE.imp pe_dnewK fun σ H Q h p hp =>
  new_run hp nt_dK (fun L os H' e => .dK (ks := []) e .nil .nil) (by intro n q h; cases h) (fun q z => nomatch z) h
theorem f_dict0N (O : On X B.g mg base) : PE X (.Dict [] [] pos) (fE B (mNew (.dcn []))) := PE.imp pe_newN fun σ H Q h p hp =>
  new_run (ho := dN X.prog X.w p []) hp nt_ext (fun L os H' e => .dN (ks := []) (by rw [← O.p, ← O.w]; exact e) .nil rfl .nil) (by intro n q h; cases h) (fun q z => nomatch z) h
theorem f_dict0D : PE X (.Dict [] [] pos) (fE B (mC (.dict []))) := PE.imp pe_dnewK fun σ H Q ⟨L, s, o, R, e, k⟩ p hp => by
  cases e
  have sm : Same H (upd H p (.dK [])) := new_same hp
  exact k (.ref p) _ L (R.same sm) (.dct (kv := []) (vv := []) (ks := []) (vs := []) (.dK (ks := []) (.inl upd_same)) (fun z => z.elim (fun z => R.hr.nolive hp z) fun z => R.hr.nopv hp z) .nil .nil rfl) (.same sm)
end
/-! ### {k: v, ..} -/
def mPairs : List (FM W × FM W) → FM (List (W × W))
  | [] => FM.pure []
  | (k, v) :: r => k.bind fun x => v.bind fun y => (mPairs r).bind fun ps => FM.pure ((x, y) :: ps)
def foldD {κ : Type} [DecidableEq κ] (key : PyData → Option κ) : List (PyData × W) → List (W × W) → Option (List (PyData × W))
  | acc, [] => some acc
  | acc, (.d x, w) :: r => match key x with
    | some k => foldD key (putO key acc k x w) r
    | none => none
  | _, _ => none
def build (n : Bool) (ps : List (W × W)) : Option Ob := if ps.length ≤ 15 then (if n = true then (foldD keyN [] ps).map .dcn else (foldD keyK [] ps).map .dct) else none
def mDisp (n : Bool) (ps : List (FM W × FM W)) : FM W := fun s => match mPairs ps s with
  | some (.ok kvs s1) => match build n kvs with
    | some ob => some (.ok (.obj s1.os.length) { s1 with os := s1.os ++ [ob] })
    | none => none
  | _ => none
abbrev RpWW (g : G) (Pv : Addr → Prop) (L : List Addr) (os : List Ob) (H : Hp) : List (V × V) → List (W × W) → Prop := Paired fun v w => RpW g Pv L os H v.1 w.1 ∧ RpW g Pv L os H v.2 w.2
def exC (B : Bs) (m : FM W) : TE := fun σ H Q => ∃ D, fE (B.inC D) m σ H Q
theorem pairs_run {B : Bs} {D : Addr} {σ : L2.St} : ∀ {ps : List (FM W × FM W)} {H : Hp} {L : List Addr} {s s1 : AS} {kvs : List (W × W)} {Q : List (V × V) → Hp → Prop}, RS (B.inC D) L s σ H → mPairs ps s = some (.ok kvs s1) →
    (∀ vs H1 L1, RS (B.inC D) L1 s1 σ H1 → RpWW B.g (B.inC D).Pv L1 s1.os H1 vs kvs → Gr L s.os H L1 s1.os H1 → Q vs H1) → tPairs (ps.map fun p => (exC B p.1, exC B p.2)) σ H Q
  | [], H, L, s, s1, kvs, Q, R, e, k => by
    cases e
    exact k [] H L R .nil .refl
  | p :: ps, H, L, s, s1, kvs, Q, R, e, k => by
    obtain ⟨mk, mv⟩ := p
    have e : (mk.bind fun x => mv.bind fun y => (mPairs ps).bind fun ps => FM.pure ((x, y) :: ps)) s = some (.ok kvs s1) := e
    have nx : ∀ x s2, (Oc.ok kvs s1 : Oc (List (W × W))) = .ex x s2 → Xd (B.inC D) x s2 := fun _ _ z => nomatch z
    show exC B mk σ H fun x H1 => exC B mv σ H1 fun y H2 => tPairs (ps.map fun p => (exC B p.1, exC B p.2)) σ H2 fun r H3 => Q ((x, y) :: r) H3
    refine ⟨D, fE.bind R e nx fun w1 s2 x H1 L1 e1 R1 r1 g1 => ?_⟩
    refine ⟨D, fE.bind R1 e1 nx fun w2 s3 y H2 L2 e2 R2 r2 g2 => ?_⟩
    rcases bind_some e2 with ⟨r, s4, e3, e4⟩ | ⟨x, s4, e3, e4⟩
    · cases e4
      exact pairs_run R2 e3 fun vs H3 L3 R3 r3 g3 => k _ H3 L3 R3 (.cons ⟨RpW.mono R1.hr (g2.trans g3) r1, RpW.mono R2.hr g3 r2⟩ r3) ((g1.trans g2).trans g3)
    · cases e4
section
variable {g : G} {Pv : Addr → Prop} {L : List Addr} {os : List Ob} {H : Hp}
theorem mergeK_ok : ∀ {more : List (V × V)} {mw : List (W × W)} {acc : List (Key × V)} {acw res : List (PyData × W)}, RpWW g Pv L os H more mw → foldD keyK acw mw = some res →
    RpAll g.P g.w g.K H (fun a => live L os a ∨ Pv a) (acc.map fun q => kV q.1) (acw.map (·.1)) → RpWs g Pv L os H (acc.map (·.2)) (acw.map (·.2)) →
    ∃ l : List (Key × V), more = l.map (fun kv => (kV kv.1, kv.2)) ∧ RpAll g.P g.w g.K H (fun a => live L os a ∨ Pv a) ((mergeK acc l).map fun q => kV q.1) (res.map (·.1)) ∧ RpWs g Pv L os H ((mergeK acc l).map (·.2)) (res.map (·.2))
  | [], _, acc, acw, res, .nil, e, rk, rv => by cases e; exact ⟨[], rfl, rk, rv⟩
  | p :: more, (.d x, w) :: mw, acc, acw, res, .cons h t, e, rk, rv => by
    unfold foldD at e
    cases q : keyK x with
    | none => rw [q] at e; cases e
    | some k =>
      rw [q] at e
      have ek := keyK_is (show Rp _ _ _ _ _ p.1 x from h.1) q
      obtain ⟨p1, p2⟩ := putK_ok (k := k) (x := x) (v := p.2) (w := w) rk (by rw [← ek]; exact h.1) rv h.2
      obtain ⟨l, h1, h2, h3⟩ := mergeK_ok t e p1 p2
      exact ⟨(k, p.2) :: l, by rw [List.map_cons, h1, ← ek], h2, h3⟩
  | p :: more, (.obj n, w) :: mw, acc, acw, res, .cons h t, e, rk, rv => nomatch e
  | p :: more, (.exc n, w) :: mw, acc, acw, res, .cons h t, e, rk, rv => nomatch e
theorem foldD_refs {κ : Type} [DecidableEq κ] {key : PyData → Option κ} {p : Nat → Prop} : ∀ {mw : List (W × W)} {acw res : List (PyData × W)}, foldD key acw mw = some res → (∀ q ∈ mw, q.2.ref p) → (∀ q ∈ acw, q.2.ref p) → ∀ q ∈ res, q.2.ref p
  | [], acw, res, e, _, h => by cases e; exact h
  | (.d x, w) :: mw, acw, res, e, hm, h => by
    unfold foldD at e
    split at e
    · exact foldD_refs e (fun q hq => hm q (List.mem_cons_of_mem _ hq)) (putO_refs (hm _ List.mem_cons_self) h)
    · cases e
  | (.obj n, w) :: mw, acw, res, e, _, _ => nomatch e
  | (.exc n, w) :: mw, acw, res, e, _, _ => nomatch e
theorem RpWW.lt (R : HR g Pv L os H) : ∀ {vs : List (V × V)} {ws : List (W × W)}, RpWW g Pv L os H vs ws → ∀ q ∈ ws, q.2.ref (· < os.length)
  | _, _, .nil, q, h => nomatch h
  | _, _, .cons h t, q, hq => by
    rcases List.mem_cons.mp hq with rfl | hq
    · exact RpW.lt R h.2
    · exact RpWW.lt R t q hq
/-- the pairs of tuples, in the heap; what is stored -/
theorem storeN_ok {X : Cx} {pins : List (Addr × Obj)} {σ : L2.St} {s : Shared} (I : Inv X pins σ H s) (hK : X.K = g.K) : ∀ {more : List (V × V)} {mw : List (W × W)} {us : List (Value × Value)} {acc : List (NestedKey × Addr × V)} {acx : List (NestedKey × Addr × Value)} {acw res : List (PyData × W)},
    RpWW g Pv L os H more mw → VV more us → foldD keyN acw mw = some res → TN acc acx → acw.map (fun q => keyN q.1) = acc.map (fun q => some q.1) →
    RpAll g.P g.w g.K H (fun a => live L os a ∨ Pv a) (acc.map fun q => V.ref q.2.1) (acw.map (·.1)) → RpWs g Pv L os H (acc.map (·.2.2)) (acw.map (·.2)) →
    ∃ (ps : List (NestedKey × Addr × Value)) (ks : List (NestedKey × Addr × V)), CarriesH (nestedKind X.prog X.w) s.heap us ps ∧ TN ks (storedAllH acx ps) ∧ ks.length ≤ acc.length + more.length ∧ res.map (fun q => keyN q.1) = ks.map (fun q => some q.1) ∧
      RpAll g.P g.w g.K H (fun a => live L os a ∨ Pv a) (ks.map fun q => V.ref q.2.1) (res.map (·.1)) ∧ RpWs g Pv L os H (ks.map (·.2.2)) (res.map (·.2))
  | [], _, _, acc, acx, acw, res, .nil, .nil, e, t, n, rk, rv => by cases e; exact ⟨[], acc, trivial, t, Nat.le_refl _, n, rk, rv⟩
  | p :: more, (.d x, w) :: mw, u :: us, acc, acx, acw, res, .cons h tt, .cons hu tu, e, t, n, rk, rv => by
    unfold foldD at e
    cases q : keyN x with
    | none => rw [q] at e; cases e
    | some k =>
      rw [q] at e
      have hx : Rp g.P g.w g.K H (fun a => live L os a ∨ Pv a) p.1 x := h.1
      obtain ⟨b, e1, e2, e3⟩ := keyN_is I hK hx q hu.1
      rw [e1] at hx
      obtain ⟨ks', t2, l2, n2, r2, v2⟩ := putN_ok (b := b) (u := u.2) (x := x) (w := w) t n rk hx q rv h.2 hu.2
      obtain ⟨ps, ks, c, h1, h2, h3, h4, h5⟩ := storeN_ok I hK tt tu e t2 n2 r2 v2
      obtain ⟨u1, u2⟩ := u
      exact ⟨(k, b, u2) :: ps, ks, ⟨e2, rfl, e3, c⟩, h1, by rw [List.length_cons]; omega, h3, h4, h5⟩
  | p :: more, (.obj n, w) :: mw, _, acc, acx, acw, res, .cons h t, _, e, _, _, _, _ => nomatch e
  | p :: more, (.exc n, w) :: mw, _, acc, acx, acw, res, .cons h t, _, e, _, _, _, _ => nomatch e
end
section
variable {X : Cx} {B : Bs} {pos : Pos} {mg : Str → Option Value} {base : Heap} {keys : List (Option Expr)} {values : List Expr} {ps : List (FM W × FM W)}
abbrev trC (B : Bs) (ps : List (FM W × FM W)) : List (TE × TE) := ps.map fun p => (exC B p.1, exC B p.2)
theorem fps_nil : PPs X pos [] [] (trC B []) := pps_nil
theorem fps_cons {k v : Expr} {ks : List (Option Expr)} {vs : List Expr} {mk mv : FM W} (hk : ∀ D, PE X k (fE (B.inC D) mk)) (hv : ∀ D, PE X v (fE (B.inC D) mv)) (hr : PPs X pos ks vs (trC B ps)) : PPs X pos (some k :: ks) (v :: vs) (trC B ((mk, mv) :: ps)) := pps_cons (PE.ex hk) (PE.ex hv) hr
theorem disp_some {n : Bool} {s : AS} {o : Oc W} (h : mDisp n ps s = some o) : ∃ kvs s1 ob, mPairs ps s = some (.ok kvs s1) ∧ build n kvs = some ob ∧ o = .ok (.obj s1.os.length) { s1 with os := s1.os ++ [ob] } := by
  unfold mDisp at h
  split at h
  · split at h
    · cases h
      exact ⟨_, _, _, by assumption, by assumption, rfl⟩
    · cases h
  · cases h
theorem f_disp (hps : PPs X pos keys values (trC B ps)) (hall : keys.all (·.isSome) = true) (hl : keys.length = values.length) (h0 : keys ≠ []) (h15 : keys.length ≤ 15) : PE X (.Dict keys values pos) (fE B (mDisp false ps)) :=
  PE.imp (pe_disp hps hall hl h0 h15) fun σ H Q ⟨L, s0, o, R, e, k⟩ p hp => by
    obtain ⟨kvs, s1, ob, e1, eb, rfl⟩ := disp_some e
    have b0 := R.base_none hp
    refine pairs_run (R.into hp (by first | exact nt_dK | exact nt_ext)) e1 fun vs H1 L1 R1 r1 g1 => ?_
    have hD : H1 p = some (.dK []) := g1.kn _ _ nt_dK upd_same fun z => R.hr.nolive hp z
    unfold build at eb
    split at eb
    · rename_i h15
      cases q : foldD keyK [] kvs with
      | none => rw [q] at eb; cases eb
      | some res =>
        rw [q] at eb
        cases eb
        obtain ⟨l, l1, l2, l3⟩ := mergeK_ok (acc := []) r1 q .nil .nil
        refine ⟨hD, l, l1, ?_, ?_⟩
        · have z := Paired.length r1
          rw [l1, List.length_map] at z
          omega
        · have R2 := R1.put (o' := .dK (mergeK [] l)) hD trivial b0 nt_dK
          have at_ : AtD (B.inC p).Pv (B.inC p).Pv H1 (upd H1 p (.dK (mergeK [] l))) p := ⟨fun a n => upd_ne n, .inr ⟨.inl rfl, _, hD, trivial⟩, fun a n p => p⟩
          have wf := foldD_refs q (RpWW.lt R1.hr r1) (by intro q h; cases h)
          have R3 := R2.adoptO (fun z => (R.hr.pv _ z).1.ne hp) b0 upd_same trivial (o := .dct res) wf (.dK upd_same (RpAll.atD at_ l2) (RpWs.atD at_ l3)) (fun q z => nomatch z)
          refine k (.ref p) _ _ R3 ⟨_, get_push.mpr (.inr ⟨R1.hr.len.symm, rfl⟩), rfl⟩ ?_
          have g2 : Gr L s0.os H L1 s1.os (upd H1 p (.dK (mergeK [] l))) := ((Gr.same (new_same hp)).trans g1).updD hp
          exact Gr.adopt (B := B) g2 R1.hr.len hp
    · cases eb
theorem f_dispN (O : On X B.g mg base) (hu : X.A.units + 64 < cLine) (hps : PPs X pos keys values (trC B ps)) (hall : keys.all (·.isSome) = true) (hl : keys.length = values.length) (h0 : keys ≠ []) (h15 : keys.length ≤ 15) : PE X (.Dict keys values pos) (fE B (mDisp true ps)) := by
  refine ⟨fun pins s σ H Q I ⟨L, s0, o, R, e, k⟩ => ?_⟩
  obtain ⟨kvs, s1, ob, e1, eb, rfl⟩ := disp_some e
  have hp : H s.heap.objs.size = none := I.hok.fresh (Nat.le_refl _)
  have b0 := R.base_none hp
  have I1 : Inv X pins σ (upd H s.heap.objs.size (dN X.prog X.w s.heap.objs.size [])) { s with heap := s.heap.push { cls := .type "dict", data := .dict #[] } } :=
    I.laid (a := s.heap.objs.size) (o := dN X.prog X.w s.heap.objs.size []) (t' := s.toks) (fun _ _ q => Heap.get?_push_of_some _ q) (Nat.le_refl _) (dN_empty I.big)
  have hn := pairTrees_length keys values X.env pos hall hl
  rw [arm_eval_Dict, zip_pairTrees keys values X.env pos hall hl, dictDisplay_pairs _ (fun z => h0 (List.eq_nil_of_length_eq_zero (by rw [← hn, z]; rfl))) (by omega)]
  refine wpAny_bind (wpAny_standAt (wpAny_bind (wpAny_subDictH (knd := nestedKind X.prog X.w) (by show X.A.units + 8 < cLine; omega) (by omega) ?_)))
  generalize hsz : s.heap.objs.size = p at hp b0 I1 ⊢
  refine thn (hps.run pins _ σ _ (fun ps H2 => ∃ L1, RS (B.inC p) L1 s1 σ H2 ∧ RpWW B.g (B.inC p).Pv L1 s1.os H2 ps kvs ∧ Gr L s0.os (upd H p (dN X.prog X.w p [])) L1 s1.os H2) I1 (pairs_run (R.into hp (by first | exact nt_dK | exact nt_ext)) e1 fun vs H1 L1 R1 r1 g1 => ⟨L1, R1, r1, g1⟩)) ?_
  rintro us s2 ⟨more, H2, I2, rel, L1, R1, r1, g1⟩
  have hD : H2 p = some (dN X.prog X.w p []) := g1.kn _ _ nt_ext upd_same fun z => R.hr.nolive hp z
  unfold build at eb
  split at eb
  · rename_i hk
    cases q : foldD keyN [] kvs with
    | none => rw [q] at eb; cases eb
    | some res =>
      rw [q] at eb
      cases eb
      obtain ⟨zl, hd, xs, t, dd⟩ := dn_of (kvs := []) (P := X.prog) (w := X.w) (A := fun _ => True) I2 O.k hD .nil rfl
      cases t
      obtain ⟨pl, ks, c, t2, l2, n2, rk, rv⟩ := storeN_ok (acc := []) (acx := []) (acw := []) I2 O.k r1 rel q .nil rfl .nil .nil
      refine ⟨pl, c, dd, fun h' tk dd' sb => ?_⟩
      have z := Paired.length r1
      obtain ⟨o', es', ep', f1, f2, f3, f4, _, f5⟩ := dd'
      have new : ObjOk X.prog X.w (upd H2 p (dN X.prog X.w p ks)) h' p (dN X.prog X.w p ks) := ⟨⟨by rw [sizeLine_eq]; simp only [List.length_nil] at l2; omega, hd, _, t2, o', es', ep', f1, f2, f3, f4, f5⟩, ⟨_, f1⟩, dN_st rfl⟩
      have I3 : Inv X pins σ (upd H2 p (dN X.prog X.w p ks)) { s2 with heap := h', toks := tk } := d_write I2 (by rw [hD]; exact True.intro) sb ⟨_, f1⟩ new
      refine wpAny_pure ⟨.ref p, _, I3, rfl, ?_⟩
      have R2 := R1.put (o' := dN X.prog X.w p ks) hD trivial b0 nt_ext
      have at_ : AtD (B.inC p).Pv (B.inC p).Pv H2 (upd H2 p (dN X.prog X.w p ks)) p := ⟨fun a n => upd_ne n, .inr ⟨.inl rfl, _, hD, trivial⟩, fun a n p => p⟩
      have wf := foldD_refs q (RpWW.lt R1.hr r1) (by intro q h; cases h)
      have R3 := R2.adoptO (fun z => (R.hr.pv _ z).1.ne hp) b0 upd_same trivial (o := .dcn res) wf (.dN (ks := ks) (by rw [upd_same, O.p, O.w]) (RpAll.atD at_ rk) n2 (RpWs.atD at_ rv)) (fun q z => nomatch z)
      refine k (.ref p) _ _ R3 ⟨_, get_push.mpr (.inr ⟨R1.hr.len.symm, rfl⟩), rfl⟩ ?_
      have g2 : Gr L s0.os H L1 s1.os (upd H2 p (dN X.prog X.w p ks)) := ((Gr.same (new_same hp)).trans g1).updD hp
      exact Gr.adopt (B := B) g2 R1.hr.len hp
  · cases eb
end
end FL
namespace FL
open PySem PySem.Spec PyProof.Rows L2
/-! ### where a def, a method, a class stands -/
structure HasF (g : G) (mg : Str → Option Value) (x : Str) (st : Stmt) : Prop where
  ex : ∃ (f : Addr) (fd : FuncData), mg x = some (.ref f) ∧ Fun g.K x x st f fd
structure HasM (g : G) (c m q : Str) (st : Stmt) : Prop where
  ex : ∃ (C f : Addr) (fd : FuncData), g.T.cls c = some C ∧ Cls g.K C ∧ L2.Meth g.K C m f ∧ Fun g.K m q st f fd
structure HasK (g : G) (mg : Str → Option Value) (c q : Str) (st : Stmt) : Prop where
  ex : ∃ (C f : Addr) (fd : FuncData), mg c = some (.ref C) ∧ g.T.cls c = some C ∧ Mk g.K C f ∧ Fun g.K "__init__" q st f fd
/-- a promise of nothing -/
def noFn : Fn := fun _ _ => none
section
variable {g : G} {mg : Str → Option Value} {base : Heap} {x c m q : Str} {st : Stmt} {k : Nat} {ps : List Str} {F : Fn}
abbrev Ok (g : G) (mg : Str → Option Value) (base : Heap) (k : Nat) (f : Addr) (fd : FuncData) (ps : List Str) (F : Fn) : Prop := FnOk g.P g.w g.K mg base (L2.CX g.P g.w) k f fd ps (spF g ps.length F)
theorem HasF.cal (h : HasF g mg x st) (hb : ∀ f fd, Fun g.K x x st f fd → Binds g.K fd ps []) (ho : ∀ f fd, Fun g.K x x st f fd → Ok g mg base k f fd ps F) : Cal g mg base x k ps F :=
  let ⟨f, fd, h1, h2⟩ := h.ex
  ⟨f, fd, h1, h2.kp, hb f fd h2, ho f fd h2⟩
theorem HasM.met (h : HasM g c m q st) (hb : ∀ f fd, Fun g.K m q st f fd → Binds g.K fd ps []) (ho : ∀ f fd, Fun g.K m q st f fd → Ok g mg base k f fd ps F) : Met g mg base c m k ps F :=
  let ⟨C, f, fd, h1, h2, h3, h4⟩ := h.ex
  ⟨C, f, fd, h1, h2, h3, hb f fd h4, ho f fd h4⟩
theorem HasK.mak (h : HasK g mg c q st) (hb : ∀ f fd, Fun g.K "__init__" q st f fd → Binds g.K fd ps []) (ho : ∀ f fd, Fun g.K "__init__" q st f fd → Ok g mg base k f fd ps F) : Mak g mg base c c k ps F :=
  let ⟨C, f, fd, h1, h2, h3, h4⟩ := h.ex
  ⟨C, f, fd, h1, h2, h3, hb f fd h4, ho f fd h4⟩
theorem Cal.mono {j : Nat} (C : Cal g mg base x j ps F) (h : j ≤ k) : Cal g mg base x k ps F :=
  let ⟨f, fd, h1, h2, h3, h4⟩ := C.ex
  ⟨f, fd, h1, h2, h3, h4.mono h⟩
/-- the def with no fuel -/
theorem no_ok {N : List Str} {f : Addr} {fd : FuncData} (F : Fun g.K x q st f fd) (S : FnScope N ps (defScope st)) : Ok g mg base (k + 1) f fd ps noFn :=
  F.okX S (fun vs H Q E h => spF.len vs H Q E h) (fun cdv A outer s H vs Q E hr h => by
    obtain ⟨Pv, L, os, ws, r, _, _, _, e, _⟩ := h
    cases e)
end
end FL
namespace Fr
open PySem PySem.Spec PyProof.Rows L2 RZ
/-! ### enumerate of a tuple -/
theorem wpAny_pureB {M : Model} {A : Around} {E : Value → Shared → Prop} {s : Shared} {a : Bool} {Q : Bool → Shared → Prop} (h : ∀ b, Q b s) : wpAny M A (pure a) Q E s := wpAny_pure (h a)
theorem enumT_new (l : Addr) (items : Array Value) (n : Nat) (dd : Option Addr) (sl : Array (Option Value)) :
    Meets (Builtin.«enumerate.__new__» ⟨[.type "enumerate", .ref l], []⟩) (fun _ R s => s.heap.get? l = some { cls := .type "tuple", dict := dd, data := .seq items n, slots := sl } ∧
      R (.ok (.ret (.ref (s.heap.push { cls := .type "tuple_iterator", data := .fields #[.ref l, .int 0 0] }).objs.size)))
        { s with heap := (s.heap.push { cls := .type "tuple_iterator", data := .fields #[.ref l, .int 0 0] }).push { cls := .type "enumerate", data := .fields #[.none, .bool false, .ref s.heap.objs.size, rawInt 0, .none, .none] } }) :=
  .of_wp fun prog w A R s h => by
    obtain ⟨hp, g, d, tk, os⟩ := s
    obtain ⟨hl, h⟩ := h
    have e1 := sub_enumerate
    have hT : Heap.IsTuple hp l items := ⟨_, hl, rfl, n, rfl⟩
    wp_walk using (wpAny_pyIter_tuple hT)
    refine wpAny_stack_any fun a => wpAny_pureB fun short => ?_
    cases short
    · wp_walk using (wpAny_pyIter_tuple hT)
      exact ⟨_, rfl, h⟩
    · wp_walk using (wpAny_pyIter_tuple hT)
      exact ⟨_, rfl, h⟩
theorem call_enumT {prog : Program} {w : World} {A : Around} {E : Value → Shared → Prop} {s : Shared} {l : Addr} {items : Array Value} {Q : Value → Shared → Prop} (hl : s.heap.IsTuple l items)
    (k : ∀ h' : Heap, IsEnum h' (s.heap.objs.size + 1) s.heap.objs.size 0 Value.none → h'.IsTupleIter s.heap.objs.size l 0 → h'.objs.size = s.heap.objs.size + 2 → (∀ (b : Addr) (o : Obj), s.heap.get? b = some o → h'.get? b = some o) →
      Q (.ref (s.heap.objs.size + 1)) { heap := h', gens := s.gens, drawn := s.drawn, toks := s.toks, os := s.os }) : wpAny (model prog w) A (call (.type "enumerate") [.ref l]) Q E s := by
  obtain ⟨⟨cls, dd, data, sl⟩, e1, hc, n, hd⟩ := hl
  simp only at hc hd
  subst hc hd
  refine callType_new F.called_enumerate (by decide) (F.typeCall_enumerate_1 _) (F.newCall_enumerate_1 _) (fun _ => F.args_object_init_2 _ _) F.entry_enumerate_new (enumT_new l items n dd sl) ⟨e1, ?_⟩
  have z1 : (s.heap.push { cls := .type "tuple_iterator", data := .fields #[.ref l, .int 0 0] }).objs.size = s.heap.objs.size + 1 := Heap.size_push _ _
  have q := k ((s.heap.push { cls := .type "tuple_iterator", data := .fields #[.ref l, .int 0 0] }).push { cls := .type "enumerate", data := .fields #[.none, .bool false, .ref s.heap.objs.size, rawInt 0, .none, .none] }) ?_ ?_ ?_ ?_
  · refine ⟨?_, ?_⟩
    · exact ⟨_, Heap.get?_push_size _ rfl, rfl⟩
    · rw [z1]
      exact q
  · rw [← z1]
    exact Heap.get?_push_size _ rfl
  · exact ⟨_, Heap.get?_push_of_some _ (Heap.get?_push_size _ rfl), rfl, rfl⟩
  · rw [Heap.size_push, z1]
  · exact fun b o e => Heap.get?_push_of_some _ (Heap.get?_push_of_some _ e)
theorem drawsT {prog : Program} {w : World} {A : Around} {it l : Addr} {items : Array Value} (hn : A.handled = none) (ne : l ≠ it) : Draws prog w A it [it, l] items.size (fun i x => items[i]? = some x) (fun i h => h.IsTupleIter it l i ∧ h.IsTuple l items) where
  live := fun i h hh => by
    obtain ⟨⟨o, e, _⟩, _⟩ := hh
    exact ⟨o, e⟩
  frame := fun i h h' hh k => by
    obtain ⟨a, o, e, r⟩ := hh
    exact ⟨a.at (k it (by simp)), o, k l (by simp) _ e, r⟩
  item := fun i s Q E hi hh k => by
    obtain ⟨a, b⟩ := hh
    have hx : items[i]? = some items[i] := by rw [getElem?_pos items i hi]
    refine nextOf_tuple_item a b hx fun h' a' sb => k _ h' _ hx ⟨a', ?_⟩ sb
    obtain ⟨o, e, r⟩ := b
    exact ⟨o, (sb.2 l ne).trans e, r⟩
  done := fun s Q E hh k => nextOf_tuple_end hn hh.1 hh.2 (by simp) k
theorem drawsE {prog : Program} {w : World} {A : Around} {it l : Addr} {items : Array Value} {n : Nat} (hn : A.handled = none) (hi : items[n]? = none) : Draws prog w A it [it, l] n (fun i x => False) (fun i h => i = n ∧ h.IsTupleIter it l i ∧ h.IsTuple l items) where
  live := fun i h hh => by
    obtain ⟨_, ⟨o, e, _⟩, _⟩ := hh
    exact ⟨o, e⟩
  frame := fun i h h' hh k => by
    obtain ⟨q, a, o, e, r⟩ := hh
    exact ⟨q, a.at (k it (by simp)), o, k l (by simp) _ e, r⟩
  item := fun i s Q E hi hh k => absurd hh.1 (Nat.ne_of_lt hi)
  done := fun s Q E hh k => nextOf_tuple_end hn hh.2.1 hh.2.2 hi k
/-- the turns -/
def IteT (K : PySem.W.Frag) (a : Addr) : It where
  go := fun i H => ∃ xs x, SqT K H a xs ∧ xs[i]? = some x
  yld := fun i H v H' => ∃ T x, v = V.ref T ∧ H T = none ∧ H' = upd H T (.tup [.int i, x]) ∧ ∀ xs : List V, SqT K H a xs → xs[i]? = some x
  stop := fun i H => ∃ xs, SqT K H a xs ∧ xs.length ≤ i
theorem turn_enumT {P : Program} {w : World} {K : PySem.W.Frag} {elts : List Expr} {kk : Nat} {tpos : Pos} (a e it : Addr) :
    Turn P w K (.Tuple elts kk tpos) (IteT K a) [e, it] e (fun i h => (∃ old, IsEnum h e it i old) ∧ h.IsTupleIter it a i ∧ e ≠ it) where
  mem := by simp
  obj := fun i h hh b hb => by
    obtain ⟨⟨old, h1⟩, ⟨o, h2, h3, h4⟩, _⟩ := hh
    rcases List.mem_cons.mp hb with rfl | hb
    · exact ⟨_, h1, fun v q => by cases q⟩
    · rcases List.mem_singleton.mp hb with rfl
      exact ⟨o, h2, fun v q => by rw [h4] at q; cases q⟩
  keep := fun i h h' hh k => by
    obtain ⟨⟨old, h1⟩, h2, ne⟩ := hh
    exact ⟨⟨old, k e (by simp) _ h1⟩, h2.at (k it (by simp)), ne⟩
  item := fun X hP hw hK hc i pins s σ H E I hf hh hgo => by
    subst hP hw hK
    obtain ⟨⟨old, h1⟩, h2, ne⟩ := hh
    obtain ⟨xs, x, hS, hx⟩ := hgo
    obtain ⟨its, r1, t1, z1⟩ := I.tuple hS
    obtain ⟨u, hu, ru⟩ := r1.get hx
    have hia : a ≠ it := fun q => by
      subst q
      obtain ⟨o, e1, e2, _⟩ := h2
      obtain ⟨o', e3, e4, _⟩ := t1
      rw [e1] at e3
      cases e3
      rw [e2] at e4
      exact absurd (Value.type.inj e4) (by decide)
    have hea : a ≠ e := fun q => by
      subst q
      obtain ⟨o', e3, e4, _⟩ := t1
      rw [h1] at e3
      cases e3
      exact absurd (Value.type.inj e4) (by decide)
    have hi : i < its.toArray.size := by
      rw [List.size_toArray]
      exact (List.getElem?_eq_some_iff.mp hu).1
    refine wpAny_pyNext_enum_itemD (drawsT (items := its.toArray) (I.ok.hd hc) hia) h1 ⟨h2, t1⟩ hi ne (by simp [ne, hea.symm]) fun x' h' tk hx' ho hst hT hsz hkeep => ?_
    have ex : x' = u := by
      have q : its.toArray[i]? = some u := by rw [List.getElem?_toArray]; exact hu
      exact Option.some.inj (hx'.symm.trans q)
    subst ex
    refine ⟨_, rfl, wpAny_letOwnedTupleGo_enum ho fun h'' he'' sb => ?_⟩
    have nT : s.heap.objs.size ≠ e := Nat.ne_of_gt (Heap.lt_size h1)
    have hT2 : h''.get? s.heap.objs.size = some { cls := .type "tuple", data := .seq #[.int i tk, x'] } := (sb.2 _ nT).trans hT
    refine ⟨.ref s.heap.objs.size, upd H s.heap.objs.size (.tup [.int i, x]), ?_, rfl, ⟨_, x, rfl, I.hok.fresh (Nat.le_refl _), rfl, fun ys hy => ?_⟩, ⟨⟨_, he''⟩, ?_, ne⟩, fun b hb => ?_⟩
    · refine I.turnedNew (ch := [e, it]) (fun b o nb e1 => ?_) hf (Nat.le_refl _) ⟨by show 2 ≤ sizeLine; decide, [.int i tk, x'], .cons ⟨tk, rfl⟩ (.cons ru .nil), _, hT2, rfl, _, rfl⟩
      have n1 : b ≠ e := fun q => nb (by rw [q]; simp)
      have n2 : b ≠ it := fun q => nb (by rw [q]; simp)
      exact (sb.2 b n1).trans (hkeep b o n1 n2 e1)
    · rw [← I.tuple_inj hS hy]
      exact hx
    · exact hst.1.at fun o e1 => (sb.2 it ne.symm).trans e1
    · have hn := (hf b hb).1
      rw [upd_ne]
      · exact hn
      · rcases List.mem_cons.mp hb with rfl | hb
        · exact nT.symm
        · rcases List.mem_singleton.mp hb with rfl
          obtain ⟨o, e1, _⟩ := h2
          exact Nat.ne_of_lt (Heap.lt_size e1)
  done := fun X hP hw hK hc i pins s σ H E I hf hh hst => by
    subst hP hw hK
    obtain ⟨⟨old, h1⟩, h2, ne⟩ := hh
    obtain ⟨xs, hS, hl⟩ := hst
    obtain ⟨its, r1, t1, z1⟩ := I.tuple hS
    have hi : its.toArray[i]? = none := by
      rw [List.getElem?_toArray]
      exact List.getElem?_eq_none (by rw [← r1.length]; exact hl)
    refine wpAny_pyNext_enum_endD (drawsE (items := its.toArray) (I.ok.hd hc) hi) h1 ⟨rfl, h2, t1⟩ fun h' hx => ⟨rfl, ?_⟩
    obtain ⟨f1, f2, f3, f4, f5, f6⟩ := hf it (by simp)
    exact I.turned (it := it) (fun b o nb e1 => hx b o nb e1) f1 f2 f4 f5 f6
  self := fun A i s Q E hh k => by
    obtain ⟨⟨old, h1⟩, _⟩ := hh
    exact wpAny_pyIter_enum h1 k
def iEnumT (K : PySem.W.Frag) (ta : TA) : TI := fun σ H R => ta σ H fun vs H1 => ∃ a xs, vs = [V.ref a] ∧ SqT K H1 a xs ∧ R (IteT K a) H1
theorem pi_enumT {X : Cx} {e : Expr} {ta : TA} {p pos tpos : Pos} {elts : List Expr} {kk : Nat} (hg : Gl X "enumerate") (hm : X.mg "enumerate" = none) (ha : PA X [e] ta)
    (hst : starEach [e] X.env = (false, eval e X.env) :: starEach [] X.env := by rfl) (hpl : (backTo pos (starEach [] X.env)).any (·.1) = false := by rfl) :
    PI X (.Tuple elts kk tpos) (.Call (.Name "enumerate" p) [e] [] pos) (iEnumT X.K ta) := ⟨fun pins s σ H R I h => by
  refine Call_ (ld_blt I hg hm boot_enumerate (callWith_type1 (thn (ha.run pos pins s σ H _ I h) fun us s1 q => ?_) hst hpl))
  obtain ⟨vs, H1, I1, rv, a, xs, rfl, hS, hR⟩ := q
  obtain ⟨u, rfl, ru⟩ := rv.one
  cases ru
  obtain ⟨its, r1, t1, z1⟩ := I1.tuple hS
  refine call_enumT t1 fun h' he hi hz hk => ?_
  refine wpAny_pyIter_enum he ⟨_, [s1.heap.objs.size + 1, s1.heap.objs.size], _, IteT X.K a, H1, rfl, I1.kept hk, turn_enumT a _ s1.heap.objs.size, ⟨⟨_, he⟩, hi, Nat.succ_ne_self _⟩, fun b hb => ?_, hR⟩
  have hb2 : s1.heap.objs.size ≤ b := by
    rcases List.mem_cons.mp hb with rfl | hb
    · exact Nat.le_succ _
    · rcases List.mem_singleton.mp hb with rfl
      exact Nat.le_refl _
  exact I1.fpOk hb2 (I1.hok.fresh hb2)⟩
/-! ### a tuple beside the empty one -/
def rNilT (K : PySem.W.Frag) : R2 := fun x y H Q => ∃ (a b : Addr) (xs : List V), x = .ref a ∧ y = .ref b ∧ SqT K H a xs ∧ SqT K H b [] ∧ Q (.bl xs.isEmpty) H
theorem op_eqNilT {X : Cx} (hu : X.A.units < cLine) : OpR X (compareOp .Eq) (rNilT X.K) := by
  intro pins s σ H x y v u Q I rx ry h
  obtain ⟨a, b, xs, rfl, rfl, ha, hb, q⟩ := h
  cases rx
  cases ry
  obtain ⟨its, r1, t1, z1⟩ := I.tuple ha
  obtain ⟨its2, r2, t2, z2⟩ := I.tuple hb
  cases r2
  refine SeqAt.eq_tupleAt (e := fun _ => true) t1 t2 hu (fun j h1 h2 => absurd h2 (by simp)) ⟨.bl xs.isEmpty, H, I, ?_, q⟩
  cases r1 <;> rfl
end Fr
namespace FL
open PySem PySem.Spec PyProof.Rows L2 RZ
/-! ### enumerate, zip -/
def pairsE : Nat → List PyData → List PyData
  | _, [] => []
  | n, x :: xs => .tuple [.int n, x] :: pairsE (n + 1) xs
def pairsZ : List PyData → List PyData → List PyData
  | x :: xs, y :: ys => .tuple [x, y] :: pairsZ xs ys
  | _, _ => []
theorem pairsE_len : ∀ (xs : List PyData) (n : Nat), (pairsE n xs).length = xs.length
  | [], _ => rfl
  | x :: xs, n => by rw [pairsE, List.length_cons, pairsE_len xs, List.length_cons]
theorem pairsE_get : ∀ (xs : List PyData) (n i : Nat), (pairsE n xs)[i]? = (xs[i]?).map fun x => .tuple [.int ((n + i : Nat) : Int), x]
  | [], _, i => by simp [pairsE]
  | x :: xs, n, 0 => by simp [pairsE]
  | x :: xs, n, i + 1 => by
    rw [pairsE, List.getElem?_cons_succ, List.getElem?_cons_succ, pairsE_get xs (n + 1) i]
    congr 1
    funext x
    rw [Nat.add_right_comm, Nat.add_assoc]
theorem pairsZ_len : ∀ (xs ys : List PyData), (pairsZ xs ys).length = min xs.length ys.length
  | [], ys => by cases ys <;> simp [pairsZ]
  | x :: xs, [] => by simp [pairsZ]
  | x :: xs, y :: ys => by rw [pairsZ, List.length_cons, pairsZ_len xs ys, List.length_cons, List.length_cons]; omega
theorem pairsZ_get : ∀ (xs ys : List PyData) (i : Nat) {z : PyData}, (pairsZ xs ys)[i]? = some z → ∃ x y, xs[i]? = some x ∧ ys[i]? = some y ∧ z = .tuple [x, y]
  | [], ys, i, z, h => by cases ys <;> simp [pairsZ] at h
  | x :: xs, [], i, z, h => by simp [pairsZ] at h
  | x :: xs, y :: ys, 0, z, h => by simp [pairsZ] at h; exact ⟨x, y, rfl, rfl, h.symm⟩
  | x :: xs, y :: ys, i + 1, z, h => by
    rw [pairsZ, List.getElem?_cons_succ] at h
    simpa using pairsZ_get xs ys i h
def enumTF : List W → Option (List PyData)
  | [.d (.tuple xs)] => some (pairsE 0 xs)
  | _ => none
def enumLF : List W → Option (List PyData)
  | [.d (.list xs)] => some (pairsE 0 xs)
  | _ => none
def zipF : List W → Option (List PyData)
  | [.d (.tuple xs), .d (.tuple ys)] => some (pairsZ xs ys)
  | [.d (.list xs), .d (.list ys)] => some (pairsZ xs ys)
  | _ => none
theorem get_map_d {xs : List PyData} {i : Nat} {w : W} (h : (xs.map W.d)[i]? = some w) : ∃ x, xs[i]? = some x ∧ w = .d x := by
  rw [List.getElem?_map] at h
  cases q : xs[i]? with
  | none => rw [q] at h; cases h
  | some x => rw [q] at h; cases h; exact ⟨x, rfl, rfl⟩
section
variable {B : Bs} {L : List Addr} {os : List Ob} {H : Hp}
/-- a fresh pair -/
theorem rp_pair {g : G} {Pv : Addr → Prop} {L : List Addr} {os : List Ob} {H : Hp} {T : Addr} {u v : V} {x y : PyData} (hT : H T = none) (r : RpW g Pv L os H u (.d x)) (q : RpW g Pv L os H v (.d y)) (R : HR g Pv L os H) : Same H (upd H T (.tup [u, v])) ∧ RpW g Pv L os (upd H T (.tup [u, v])) (.ref T) (.d (.tuple [x, y])) := by
  have sm : Same H (upd H T (.tup [u, v])) := new_same hT
  refine ⟨sm, ?_⟩
  have r' := RpW.mono R (.same sm) r
  have q' := RpW.mono R (.same sm) q
  exact Rp.tup (.of upd_same) (.cons r' (.cons q' .nil))
theorem sv_enumL {a : Addr} {vs : List V} {xs : List PyData} (R : HR B.g B.Pv L os H) (h : Rd H a (.lst vs)) (n : ¬ live L os a) (r : RpAll B.g.P B.g.w B.g.K H (fun a => live L os a ∨ B.Pv a) vs xs) : Sv B (Ite B.g.K a) L os H ((pairsE 0 xs).map .d) := by
  have hs : ∀ {L' os' H'}, Gr L os H L' os' H' → SqL B.g.K H' a vs := fun gr => .inl (Rd.keep gr.kn nt_lst n h)
  refine ⟨fun Pv' L' os' H' hp R' gr => ⟨vs, hs gr, by rw [List.length_map, pairsE_len, r.length]; exact Nat.le_refl _⟩, fun i w Pv' L' os' H' e hp R' gr => ?_, fun i w Pv' L' os' H' x H'' e hp R' gr y => ?_⟩
  · obtain ⟨z, e', rfl⟩ := get_map_d e
    rw [pairsE_get] at e'
    obtain ⟨u, e2, rfl⟩ := Option.map_eq_some_iff.mp e'
    obtain ⟨v, h1, h2⟩ := r.get e2
    exact ⟨vs, v, hs gr, h1⟩
  · obtain ⟨T, v, rfl, hT, rfl, y⟩ := y
    have hv := y vs (hs gr)
    obtain ⟨z, e', rfl⟩ := get_map_d e
    rw [pairsE_get] at e'
    obtain ⟨u, e2, rfl⟩ := Option.map_eq_some_iff.mp e'
    rw [Nat.zero_add]
    exact rp_pair hT (x := .int i) (Rp.int _) (RpW.mono' (w := .d u) R gr hp (r.at_ e2 hv)) R'
theorem sv_enumT {a : Addr} {vs : List V} {xs : List PyData} (R : HR B.g B.Pv L os H) (h : SqT B.g.K H a vs) (r : RpAll B.g.P B.g.w B.g.K H (fun a => live L os a ∨ B.Pv a) vs xs) : Sv B (Fr.IteT B.g.K a) L os H ((pairsE 0 xs).map .d) := by
  have hs : ∀ {L' os' H'}, Gr L os H L' os' H' → SqT B.g.K H' a vs := fun gr => SqT.keep R gr.kn h
  refine ⟨fun Pv' L' os' H' hp R' gr => ⟨vs, hs gr, by rw [List.length_map, pairsE_len, r.length]; exact Nat.le_refl _⟩, fun i w Pv' L' os' H' e hp R' gr => ?_, fun i w Pv' L' os' H' x H'' e hp R' gr y => ?_⟩
  · obtain ⟨z, e', rfl⟩ := get_map_d e
    rw [pairsE_get] at e'
    obtain ⟨u, e2, rfl⟩ := Option.map_eq_some_iff.mp e'
    obtain ⟨v, h1, h2⟩ := r.get e2
    exact ⟨vs, v, hs gr, h1⟩
  · obtain ⟨T, v, rfl, hT, rfl, y⟩ := y
    have hv := y vs (hs gr)
    obtain ⟨z, e', rfl⟩ := get_map_d e
    rw [pairsE_get] at e'
    obtain ⟨u, e2, rfl⟩ := Option.map_eq_some_iff.mp e'
    rw [Nat.zero_add]
    exact rp_pair hT (x := .int i) (Rp.int _) (RpW.mono' (w := .d u) R gr hp (r.at_ e2 hv)) R'
theorem sv_zipL {a b : Addr} {vs us : List V} {xs ys : List PyData} (R : HR B.g B.Pv L os H) (h : Rd H a (.lst vs)) (n : ¬ live L os a) (r : RpAll B.g.P B.g.w B.g.K H (fun a => live L os a ∨ B.Pv a) vs xs)
    (h2 : Rd H b (.lst us)) (n2 : ¬ live L os b) (r2 : RpAll B.g.P B.g.w B.g.K H (fun a => live L os a ∨ B.Pv a) us ys) : Sv B (Itz B.g.K a b) L os H ((pairsZ xs ys).map .d) := by
  have hs : ∀ {L' os' H'}, Gr L os H L' os' H' → SqL B.g.K H' a vs := fun gr => .inl (Rd.keep gr.kn nt_lst n h)
  have hs2 : ∀ {L' os' H'}, Gr L os H L' os' H' → SqL B.g.K H' b us := fun gr => .inl (Rd.keep gr.kn nt_lst n2 h2)
  refine ⟨fun Pv' L' os' H' hp R' gr => ⟨vs, us, hs gr, hs2 gr, by rw [List.length_map, pairsZ_len, r.length, r2.length]; omega⟩, fun i w Pv' L' os' H' e hp R' gr => ?_, fun i w Pv' L' os' H' x H'' e hp R' gr y => ?_⟩
  · obtain ⟨z, e', rfl⟩ := get_map_d e
    obtain ⟨x, y, e1, e2, rfl⟩ := pairsZ_get _ _ _ e'
    obtain ⟨v, h1, _⟩ := r.get e1
    obtain ⟨u, h2, _⟩ := r2.get e2
    exact ⟨vs, us, v, u, hs gr, hs2 gr, h1, h2⟩
  · obtain ⟨T, v, u, rfl, hT, rfl, y1, y2⟩ := y
    have hv := y1 vs (hs gr)
    have hu := y2 us (hs2 gr)
    obtain ⟨z, e', rfl⟩ := get_map_d e
    obtain ⟨x, y, e1, e2, rfl⟩ := pairsZ_get _ _ _ e'
    exact rp_pair hT (RpW.mono' (w := .d x) R gr hp (r.at_ e1 hv)) (RpW.mono' (w := .d y) R gr hp (r2.at_ e2 hu)) R'
theorem sv_zipT {a b : Addr} {vs us : List V} {xs ys : List PyData} (R : HR B.g B.Pv L os H) (h : SqT B.g.K H a vs) (r : RpAll B.g.P B.g.w B.g.K H (fun a => live L os a ∨ B.Pv a) vs xs)
    (h2 : SqT B.g.K H b us) (r2 : RpAll B.g.P B.g.w B.g.K H (fun a => live L os a ∨ B.Pv a) us ys) : Sv B (ItzT B.g.K a b) L os H ((pairsZ xs ys).map .d) := by
  have hs : ∀ {L' os' H'}, Gr L os H L' os' H' → SqT B.g.K H' a vs := fun gr => SqT.keep R gr.kn h
  have hs2 : ∀ {L' os' H'}, Gr L os H L' os' H' → SqT B.g.K H' b us := fun gr => SqT.keep R gr.kn h2
  refine ⟨fun Pv' L' os' H' hp R' gr => ⟨vs, us, hs gr, hs2 gr, by rw [List.length_map, pairsZ_len, r.length, r2.length]; omega⟩, fun i w Pv' L' os' H' e hp R' gr => ?_, fun i w Pv' L' os' H' x H'' e hp R' gr y => ?_⟩
  · obtain ⟨z, e', rfl⟩ := get_map_d e
    obtain ⟨x, y, e1, e2, rfl⟩ := pairsZ_get _ _ _ e'
    obtain ⟨v, h1, _⟩ := r.get e1
    obtain ⟨u, h2, _⟩ := r2.get e2
    exact ⟨vs, us, v, u, hs gr, hs2 gr, h1, h2⟩
  · obtain ⟨T, v, u, rfl, hT, rfl, y1, y2⟩ := y
    have hv := y1 vs (hs gr)
    have hu := y2 us (hs2 gr)
    obtain ⟨z, e', rfl⟩ := get_map_d e
    obtain ⟨x, y, e1, e2, rfl⟩ := pairsZ_get _ _ _ e'
    exact rp_pair hT (RpW.mono' (w := .d x) R gr hp (r.at_ e1 hv)) (RpW.mono' (w := .d y) R gr hp (r2.at_ e2 hu)) R'
end
/-- enumerate of a list, of a tuple -/
def iEnumB (K : PySem.W.Frag) (ta : TA) : TI := fun σ H R => ta σ H fun vs H1 => (∃ a xs, vs = [V.ref a] ∧ SqL K H1 a xs ∧ R (Ite K a) H1) ∨ ∃ a xs, vs = [V.ref a] ∧ SqT K H1 a xs ∧ R (Fr.IteT K a) H1
section
variable {X : Cx} {B : Bs} {e e2 : Expr} {ms : FM (List W)} {p pos tpos : Pos} {elts : List Expr} {kk : Nat}
theorem fi_enumT (hK : X.K = B.g.K) (hg : Gl X "enumerate") (hm : X.mg "enumerate" = none) (ha : PA X [e] (fA B ms)) (hs : starEach [e] X.env = [(false, eval e X.env)] := by rfl) :
    PI X (.Tuple elts kk tpos) (.Call (.Name "enumerate" p) [e] [] pos) (fI B (mRng enumTF ms)) :=
  PI.imp (Fr.pi_enumT hg hm ha hs) fun σ H R ⟨L, s, o, RR, e, k⟩ => by
    refine fA.bind RR e k.ex fun ws s1 vs H1 L1 e1 R1 r1 g1 => ?_
    match ws, r1, e1 with
    | [.d (.tuple xs)], .cons r .nil, e1 =>
      cases e1
      obtain ⟨a, us, rfl, h, rr⟩ := rp_tup r
      exact ⟨a, us, rfl, hK ▸ h, k _ H1 L1 R1 g1 (by rw [hK]; exact sv_enumT R1.hr h rr)⟩
theorem fi_enumL (hK : X.K = B.g.K) (hg : Gl X "enumerate") (hm : X.mg "enumerate" = none) (ha : PA X [e] (fA B ms)) (hs : starEach [e] X.env = [(false, eval e X.env)] := by rfl) :
    PI X (.Tuple elts kk tpos) (.Call (.Name "enumerate" p) [e] [] pos) (fI B (mRng enumLF ms)) :=
  PI.imp (pi_enum hg hm ha hs) fun σ H R ⟨L, s, o, RR, e, k⟩ => by
    refine fA.bind RR e k.ex fun ws s1 vs H1 L1 e1 R1 r1 g1 => ?_
    match ws, r1, e1 with
    | [.d (.list xs)], .cons r .nil, e1 =>
      cases e1
      have r : Rp B.g.P B.g.w B.g.K H1 _ _ (.list xs) := r
      cases r with
      | @lst a us xs h n rr => exact ⟨a, us, rfl, .inl h, k _ H1 L1 R1 g1 (by rw [hK]; exact sv_enumL R1.hr h (fun z => n (.inl z)) rr)⟩
theorem fi_zip (hK : X.K = B.g.K) (hg : Gl X "zip") (hm : X.mg "zip" = none) (ha : PA X [e, e2] (fA B ms))
    (hs : starEach [e, e2] X.env = (false, eval e X.env) :: starEach [e2] X.env := by rfl) (hpl : (backTo pos (starEach [e2] X.env)).any (·.1) = false := by rfl) :
    PI X (.Tuple elts kk tpos) (.Call (.Name "zip" p) [e, e2] [] pos) (fI B (mRng zipF ms)) :=
  PI.imp (pi_zipA hg hm ha hs hpl) fun σ H R ⟨L, s, o, RR, e, k⟩ => by
    refine fA.bind RR e k.ex fun ws s1 vs H1 L1 e1 R1 r1 g1 => ?_
    match ws, r1, e1 with
    | [.d (.tuple xs), .d (.tuple ys)], .cons r (.cons q .nil), e1 =>
      cases e1
      obtain ⟨a, us, rfl, h, rr⟩ := rp_tup r
      obtain ⟨b, vs, rfl, h2, r2⟩ := rp_tup q
      exact ⟨a, b, us, vs, rfl, .inr ⟨hK ▸ h, hK ▸ h2, k _ H1 L1 R1 g1 (by rw [hK]; exact sv_zipT R1.hr h rr h2 r2)⟩⟩
    | [.d (.list xs), .d (.list ys)], .cons r (.cons q .nil), e1 =>
      cases e1
      have r : Rp B.g.P B.g.w B.g.K H1 _ _ (.list xs) := r
      have q : Rp B.g.P B.g.w B.g.K H1 _ _ (.list ys) := q
      cases r with
      | @lst a us xs h n rr =>
        cases q with
        | @lst b vs ys h2 n2 r2 => exact ⟨a, b, us, vs, rfl, .inl ⟨.inl h, .inl h2, k _ H1 L1 R1 g1 (by rw [hK]; exact sv_zipL R1.hr h (fun z => n (.inl z)) rr h2 (fun z => n2 (.inl z)) r2)⟩⟩
end
/-! ### a, b, .. = a list; i += 1; t == () -/
def gLstF (n : Nat) (t : List W → FM Unit) : FG := fun w s => match w with
  | .d (.list xs) => if xs.length = n then t (xs.map .d) s else none
  | _ => none
section
variable {X : Cx} {B : Bs} {pos : Pos}
theorem fg_lst {es : List Expr} {k n : Nat} {t : List W → FM Unit} (hK : X.K = B.g.K) (hc : X.calm = true) (h : PGs X es (fGs B t)) (hn : (assignEach es X.env).length = n := by rfl) (hst : (assignEach es X.env).findIdx? (·.1) = none := by rfl) :
    PG X (.Tuple es k pos) (fG B (gLstF n t)) :=
  PG.imp (pg_lst hc h hn hst) fun v σ H Q ⟨L, s, w, o, R, r, e, kk⟩ => by
    match w, r, e with
    | .d (.list xs), r, e =>
      have e : (if xs.length = n then t (xs.map .d) s else none) = some o := e
      split at e
      · rename_i hl
        have r : Rp B.g.P B.g.w B.g.K H _ v (.list xs) := r
        cases r with
        | @lst a us xs h nn rr => exact ⟨a, us, rfl, hK ▸ .inl h, by rw [rr.length]; exact hl, L, s, xs.map .d, o, R, rr.ws, e, kk⟩
      · cases e
/-- i += e of ints -/
def mAug (i : Nat) (m : FM W) : FM Fl := fun s => match s.sl[i]? with
  | some (some (.d (.int a))) => m.bind (fun y s1 => match y with
    | .d (.int b) => some (.ok .nx { s1 with sl := s1.sl.set i (some (.d (.int (a + b)))) })
    | _ => none) s
  | _ => none
theorem fs_aug {e : Expr} {m : FM W} {i : Nat} {x : Str} {pos' : Pos} (hN : X.N.Nodup) (hi : X.N[i]? = some x) (hx : Loc X.env.scope x) (he : PE X e (fE B m)) (hf : X.fn x = true ∨ X.env.scope.names.lookup x = some .local := by first | exact .inl rfl | exact .inr rfl | assumption) :
    PS X (.AugAssign (.Name x pos') .Add e pos) (fS B (mAug i m)) :=
  PS.imp (ps_aug hN hi hx he ip_add hf) fun D σ H ⟨L, s, o, R, e, k⟩ => by
    unfold mAug at e
    split at e
    · rename_i a hw
      obtain ⟨v, h1, h2⟩ := R.sl i _ hw
      have := rpW_int h2
      subst this
      refine ⟨_, h1, ?_⟩
      refine fE.bind R e k.ex fun u s3 y H1 L1 e5 R1 r1 g1 => ?_
      split at e5
      · rename_i b
        cases e5
        have := rpW_int r1
        subst this
        exact ⟨a, b, rfl, rfl, k _ H1 L1 (R1.set (v := .int (a + b)) (w := .d (.int (a + b))) (Rp.int _)) g1⟩
      · cases e5
    · cases e
end
/-- t == (), t a tuple of anything -/
def gNilT (os : List Ob) (w u : W) : Option W := match w, u with
  | .d (.tuple xs), .d (.tuple []) => some (.d (.bool xs.isEmpty))
  | _, _ => none
def gEqA (os : List Ob) (w u : W) : Option W := match gNilT os w u with
  | some r => some r
  | none => gEq os w u
theorem eqA_ok {X : Cx} {B : Bs} (hK : X.K = B.g.K) (hu : X.A.units + 64 < cLine) : OpR X (compareOp .Eq) (rF2 B gEqA) := OpR.imp ((OpR.imp (Fr.op_eqNilT (X := X) (by omega)) fun x y H Q (h : rF2 B gNilT x y H Q) => by
  obtain ⟨L, os, w, u, r, R, rw_, ru, e, k⟩ := h
  match w, u, rw_, ru, e with
  | .d (.tuple xs), .d (.tuple []), rw_, ru, e =>
    cases e
    obtain ⟨a, vs, rfl, h1, r1⟩ := rp_tup rw_
    obtain ⟨b, us, rfl, h2, r2⟩ := rp_tup ru
    cases r2
    exact ⟨a, b, vs, rfl, rfl, hK ▸ h1, hK ▸ h2, by rw [r1.isEmpty]; exact k _ H (Same.refl H) (Rp.bl _)⟩).or (eq_ok hK hu)) fun x y H Q h => rF2.or (f := gNilT) (f' := gEq) (fun os w u r e => by
  unfold gEqA at e
  split at e
  · rename_i r' hr
    cases e
    exact .inl hr
  · exact .inr e) h
end FL
/-! ### self.__class__ of an exception, C.__name__ of a class of one's own -/
namespace XNm
open PySem PySem.W PySem.Calls PyProof.Rows Builtin Builtin.ObjectAttr Builtin.Getset_descriptor
variable {prog : Program} {w : World} {A : Around} {E : Value → Shared → Prop} {s : Shared} {K : Frag} {p D : Addr} {ob : Obj} {di : Option Obj}
/-- what the classes must say of __class__ -/
structure ClsRd (K : Frag) (D : Addr) : Prop where
  cl : (clsIn K D).isSome = true
  g1 : findIn K (.ref D) "__getattribute__" = some (some (.builtin "BaseException.__getattribute__"))
  g2 : findIn K (.ref D) "__getattr__" = some none
  sb : subIn K (.ref D) (.type "BaseException") = some true
  at_ : findIn K (.ref D) "__class__" = some (some (.builtin "object.__class__"))
  gs : specialIn K (.builtin "object.__class__") "__get__" = some (some (.builtin "getset_descriptor.__get__"))
  tk : takesIn K (.builtin "object.__class__") = some true
  mr : mroIn K D (.type "object") = some true
theorem noClash : (Value.builtin "BaseException.__getattribute__" == Value.builtin "object.__getattribute__") = false := by decide +kernel
theorem readCls {ex : Bool} {Q : Value → Shared → Prop} (c : ClsRd K D) (hK : K.In s.heap) (J : InstAt s.heap p ob D none) (k : Q (.ref D) { s with toks := s.toks + 1 }) : wpAny (model prog w) A (getAttr (.ref p) "__class__" ex) Q E s := by
  obtain ⟨cd, hcd⟩ := Option.isSome_iff_exists.mp c.cl
  have found : findObj K D none "__class__" = some (.bind (.builtin "getset_descriptor.__get__") (.builtin "object.__class__")) := findObj_dataN c.cl c.at_ c.gs c.tk
  obtain ⟨hp, gn, dr, tk, os⟩ := s
  have ty := J.type (M := model prog w)
  have below : Looks (model prog w) hp (isInstance (.ref p) (.type "BaseException")) true := ty.andThen (looks_subIn hK c.sb)
  have cmp1 : (onTheHeap (Value.ref D) && Value.builtin "BaseException.__getattribute__" == Value.builtin "object.__getattribute__") = false := by rw [noClash, Bool.and_false]
  have cmp2 : (ex && onTheHeap (Value.builtin "BaseException.__getattribute__")) = false := Bool.and_false ex
  unfold getAttr getAttrBy
  refine wpAny_bind (wpAny_mkText (wpAny_holding ?_))
  refine wpAny_bind (ty.at (wpAny_bind ((looks_findIn (M := model prog w) hK c.g1).at ?_)))
  dsimp only
  rw [if_neg (by rw [cmp1]; decide)]
  unfold getAttrByItsOwn hookBefore
  have onH : onTheHeap (Value.ref D) = true := rfl
  refine wpAny_bind ?_
  rw [if_pos onH]
  refine (looks_findIn (M := model prog w) hK c.g2).at (wpAny_bind (wpAny_attempt (wpAny_holding ?_)))
  unfold callGetattribute
  rw [if_neg (by rw [cmp2]; decide)]
  unfold boundAndCalled
  rw [PySem.F.excAttr_ValueError.ga.bind (.ref p)]
  refine wpAny_bind (wpAny_pure (wpAny_call (codeAny_call_builtin PySem.F.excAttr_ValueError.ga.plain PySem.F.entry_bexc_ga ?_)))
  have args := PySem.F.args_bexc_ga (.ref p) (.str "__class__" tk)
  refine @check_slot (model prog w) A.in1 _ ⟨hp, gn, dr, tk + 1, os⟩ "BaseException.__getattribute__" "BaseException" "__getattribute__" (.ref p) [.str "__class__" tk] [] _ (by decide +kernel) (by decide +kernel) below args ?_
  unfold Builtin.«object.__getattribute__»
  refine wpAny_bind (wpAny_of_eq (a := ((.ref p : Value), [.str "__class__" tk])) (by first | rfl | (simp only [slotArgs]; rfl)) (wpAny_bind (wpAny_pure ?_)))
  refine wpAny_bind (ty.at (wpAny_bind ((looks_find (M := model prog w) hK J found).at ?_)))
  show wpAny _ _ (holding [Value.builtin "object.__class__"] (call (.builtin "getset_descriptor.__get__") [.builtin "object.__class__", .ref p, .ref D]) >>= fun v => ret v) _ _ _
  refine wpAny_bind (wpAny_holding (wpAny_call (class_get (s := ⟨hp, gn, dr, tk + 1, os⟩) (ox := ob) (od := none) hK J c.mr ?_)))
  refine wpAny_pure ?_
  exact handed_on (s := ⟨hp, gn, dr, tk + 1, os⟩) rfl k
/-- the class has kept its name -/
structure NmRd (K : Frag) (D : Addr) (z : Str) : Prop where
  ty : typeIn K (.ref D) = some (.type "type")
  rd : readsIn K D (.type "type") = true
  fd : findCls K (.ref D) (.type "type") "__name__" = some (.get (.builtin "getset_descriptor.__get__") (.builtin "type.__name__") (.ref D) (.type "type"))
  ob : ∃ o tk, K.lookup D = some o ∧ o.slots[2]? = some (some (.str z tk))
theorem nameGet {z : Str} {tp : Value} {R : Result → Shared → Prop} (c : NmRd K D z) (hK : K.In s.heap) (k : ∀ tk, R (.ok (.ret (.str z tk))) s) :
    codeAny (model prog w) A (.call (.builtin "getset_descriptor.__get__") ⟨[.builtin "type.__name__", .ref D, tp], []⟩) R s := by
  obtain ⟨hp, gn, dr, tk, os⟩ := s
  have ty : Looks (model prog w) hp (typeOf (.ref D)) (.type "type") := looks_typeIn hK c.ty
  have tt : Looks (model prog w) hp (isSubtype (.type "type") (.type "type")) true := Looks.of_pure (by rw [isSubtype_type]; kernel_rfl)
  obtain ⟨o, t2, hl, ho⟩ := c.ob
  refine codeAny_call_builtin KF.slot_gs.plain KF.entry_gs (KF.slot_gs.check _ _ _ _ _ _ _ _ ktyn_type (KF.args_gs _ _ _) ?_)
  unfold Builtin.«getset_descriptor.__get__» descrGet
  refine wpAny_bind (wpAny_of_eq (dga_obj _ tp D) ?_)
  unfold descrGetter descrCheckInstance descrNameAndClass isInstance
  dsimp only
  simp only [ktyn_owner]
  repeat lk
  refine ⟨Code.quiet_builtin _ (by decide +kernel), codeAny_builtin ktyn_entry ?_⟩
  unfold Builtin.«type.__name__» keptObject slotAt
  refine wpAny_bind (wpAny_bind (wpAny_bind (wpAny_loadPart (hK _ _ hl) (wpAny_pure ?_))))
  rw [ho]
  exact wpAny_pure (wpAny_pure (k t2))
theorem readNm {z : Str} {ex : Bool} {Q : Value → Shared → Prop} (c : NmRd K D z) (hK : K.In s.heap) (k : ∀ tk, Q (.str z tk) { s with toks := s.toks + 1 }) : wpAny (model prog w) A (getAttr (.ref D) "__name__" ex) Q E s :=
  cls_bind hK c.rd c.fd (wpAny_call (nameGet (s := { s with toks := s.toks + 1 }) c hK fun tk => handed_on rfl (k tk)))
end XNm
namespace FL
open PySem PySem.Spec PyProof.Rows L2
/-- e.__class__.__name__, e the exception that is being made -/
def tClsNm (K : PySem.W.Frag) (te : TE) : TE := fun σ H Q => te σ H fun x H1 => ∃ (a C : Addr) (z : Str), x = .ref a ∧ H1 a = some (exo a C none) ∧ XNm.ClsRd K C ∧ XNm.NmRd K C z ∧ Q (.str z) H1
theorem pe_clsNm {X : Cx} {e : Expr} {te : TE} {p1 p2 : Pos} (he : PE X e te) (h1 : attributeBase e "__class__" X.env (eval e X.env) = eval e X.env := by rfl)
    (h2 : attributeBase (.Attribute e "__class__" p1) "__name__" X.env (eval (.Attribute e "__class__" p1) X.env) = eval (.Attribute e "__class__" p1) X.env := by rfl) : PE X (.Attribute (.Attribute e "__class__" p1) "__name__" p2) (tClsNm X.K te) := by
  refine ⟨fun pins s σ H Q I h => attr_of h2 (attr_of h1 (thn (he.run pins s σ H _ I h) fun u s1 hh => ?_))⟩
  obtain ⟨x, H1, I1, rx, a, C, z, rfl, ea, c1, c2, q⟩ := hh
  obtain rfl : u = Value.ref a := rx
  obtain ⟨t1, ho⟩ := exo_at I1.hok ea
  have J : PySem.W.InstAt s1.heap a _ C none := ⟨ho, rfl, rfl, trivial⟩
  exact XNm.readCls c1 I1.kIn J (XNm.readNm (s := { s1 with toks := s1.toks + 1 }) c2 I1.kIn fun tk => ⟨.str z, H1, I1.tok _, ⟨tk, rfl⟩, q⟩)
end FL
namespace FL
open PySem PySem.Spec PyProof.Rows L2
/-! ### errors of one's own, whose __init__ is a def -/
/-- what the classes say -/
structure ErrOk (K : PySem.W.Frag) (C : Addr) : Prop where
  oe : OexC K C
  rd : XNm.ClsRd K C
  nm : ∃ z, XNm.NmRd K C z
  no : PySem.W.findIn K (.ref C) "called" = some none
def FldsR (g : G) (H : Hp) (A : Addr → Prop) (fl : List (Str × PyData)) (vfs : List (Str × V)) : Prop := ∀ f x, fl.lookup f = some x → ∃ u, vfs.lookup f = some u ∧ Rp g.P g.w g.K H A u x
/-- what an __init__ promises: from the arguments the attributes that are told -/
def spI (g : G) (gI : List PyData → Option (List (Str × PyData))) (ok : Addr → Prop) : Sp := fun vs H Q _ => ∃ (a C : Addr) (us : List V) (xs : List PyData) (A : Addr → Prop) (fl : List (Str × PyData)),
  vs = .ref a :: us ∧ us.length ≤ 100 ∧ ErrOk g.K C ∧ ok C ∧ H a = some (exo a C none) ∧ RpAll g.P g.w g.K H A us xs ∧ gI xs = some fl ∧ ∀ dx vfs, H dx = none → dx ≠ a → vfs.length ≤ 100 → FldsR g H A fl vfs → Q .non (upd (upd H dx (exd dx vfs)) a (exo a C (some dx)))
/-- an error that may be raised -/
structure Rai (g : G) (mg : Str → Option Value) (base : Heap) (c : Str) (k : Nat) (ps : List Str) (gI : List PyData → Option (List (Str × PyData))) (ok : Addr → Prop) : Prop where
  ex : ∃ (C fI : Addr) (fd : FuncData) (ds : List Value), mg c = some (.ref C) ∧ g.T.cls c = some C ∧ ErrOk g.K C ∧ ok C ∧ PySem.W.findIn g.K (.ref C) "__init__" = some (some (.ref fI)) ∧ PySem.W.typeIn g.K (.ref fI) = some (.type "function") ∧ Binds g.K fd ps [] ∧ FnOk g.P g.w g.K mg base (L2.CX g.P g.w) k fI fd ps (spI g gI ok)
def mRaise (c : Str) (gI : List PyData → Option (List (Str × PyData))) (ms : FM (List W)) : FM Fl := ms.bind fun ws s => match (datas ws).bind gI with
  | some fl => if ws.length ≤ 100 then some (.ex ⟨c, fl⟩ s) else none
  | none => none
theorem exo_frz {e C : Addr} {d : Option Addr} {o : Obj} {u : HO} : exo e C d ≠ .frz o u := fun z => by
  have z' : HO.ext _ = HO.frz o u := z
  cases z'
/-- an exception that stood for a while is gone -/
theorem stay_gone {g : G} {A : Addr → Prop} {H1 H' : Hp} {a C : Addr} (n : H1 a = none) (k : ∀ b o, H1 b = some o → H' b = some o) : Stay g (fun b => A b ∨ b = a) A (upd H1 a (exo a C none)) H' := by
  have at_ : ∀ {b o}, upd H1 a (exo a C none) b = some o → b ≠ a → H' b = some o := fun {b o} e ne => k b o (by rw [upd_ne ne] at e; exact e)
  have rd : ∀ {b u}, Rd (upd H1 a (exo a C none)) b u → ¬ (A b ∨ b = a) → Rd H' b u := fun {b u} e ne => by
    rcases e with e | ⟨o, e⟩
    · exact .inl (at_ e fun z => ne (.inr z))
    · exact .inr ⟨o, at_ e fun z => ne (.inr z)⟩
  refine ⟨fun b vs h => ?_, fun b u _ h ne => rd h ne, fun b kv vv h ne => ?_, fun b o _ e ne z => ne (.inl z)⟩
  · rcases h with (h | ⟨o, h⟩) | h
    · exact .inl (.inl (at_ h fun z => by subst z; rw [upd_same] at h; exact exo_tup (Option.some.inj h)))
    · exact .inl (.inr ⟨o, at_ h fun z => by subst z; rw [upd_same] at h; exact exo_frz (Option.some.inj h)⟩)
    · exact .inr h
  · cases h with
    | dK h => exact .dK (rd h ne)
/-- .. comes -/
theorem stay_come {g : G} {A : Addr → Prop} {H1 : Hp} {a C : Addr} (n : H1 a = none) : Stay g A (fun b => A b ∨ b = a) H1 (upd H1 a (exo a C none)) := by
  have at_ : ∀ {b o}, H1 b = some o → upd H1 a (exo a C none) b = some o := fun {b o} e => by rw [upd_ne (ne_of_none e n)]; exact e
  have rd : ∀ {b u}, Rd H1 b u → Rd (upd H1 a (exo a C none)) b u := fun {b u} e => by
    rcases e with e | ⟨o, e⟩
    · exact .inl (at_ e)
    · exact .inr ⟨o, at_ e⟩
  refine ⟨fun b vs h => ?_, fun b u _ h ne => rd h, fun b kv vv h ne => ?_, fun b o _ e ne z => z.elim ne fun z => by rw [z, n] at e; cases e⟩
  · rcases h with (h | ⟨o, h⟩) | h
    · exact .inl (.inl (at_ h))
    · exact .inl (.inr ⟨o, at_ h⟩)
    · exact .inr h
  · cases h with
    | dK h => exact .dK (rd h)
theorem fs_raise {X : Cx} {B : Bs} {mg : Str → Option Value} {base : Heap} {c : Str} {k : Nat} {ps : List Str} {gI : List PyData → Option (List (Str × PyData))} {ok : Addr → Prop} {e : Expr} {es : List Expr} {ms : FM (List W)} {p pos pos2 : Pos} (O : On X B.g mg base) (C : Rai B.g mg base c k ps gI ok) (hr : Room (k + 1) X.A)
    (tk : Takes X (fun cls d _ H => B.E cls d H)) (hcalm : X.calm = true) (ha : PA X (e :: es) (fA B ms)) (hg : Gl X c)
    (hdb : (c == ("__debug__" : Str)) = false := by decide) (he : starEach (e :: es) X.env = (false, eval e X.env) :: starEach es X.env := by rfl) (hpl : (backTo pos (starEach es X.env)).any (·.1) = false := by rfl) :
    PS X (.Raise (some (.Call (.Name c p) (e :: es) [] pos)) none pos2) (fS B (mRaise c gI ms)) := by
  obtain ⟨Ca, fI, fd, ds, hm, hc, er, ho, h1, h2, hb, Fo⟩ := C.ex
  have Fo' : FnOk X.prog X.w X.K X.mg X.base (L2.CX X.prog X.w) k fI fd ps (spI B.g gI ok) := by rw [O.p, O.w, O.k, O.m, O.b]; exact Fo
  refine PS.imp (ps_raise hcalm tk (pmk_oex (O.k ▸ er.oe) (O.k ▸ h1) (O.k ▸ h2) Fo' hr (O.k ▸ hb) .nil (passes_call tk fun _ _ _ _ h => h.elim) hg (by rw [O.m]; exact hm) ha hdb he hpl)) fun D σ H ⟨L, s, oc, R, e, kk⟩ => ?_
  refine fA.bind R e kk.ex fun ws s1 vs H1 L1 e1 R1 r1 g1 => ?_
  cases q : datas ws with
  | none => rw [q] at e1; cases e1
  | some xs =>
    rw [q] at e1
    have e1 : (match gI xs with | some fl => if ws.length ≤ 100 then some (Oc.ex (α := Fl) ⟨c, fl⟩ s1) else none | none => none) = some oc := e1
    cases q2 : gI xs with
    | none => rw [q2] at e1; cases e1
    | some fl =>
      rw [q2] at e1
      dsimp only at e1
      split at e1
      · rename_i hl
        cases e1
        have lv := Paired.length r1
        rw [List.append_nil]
        refine ⟨by omega, fun a hn => ⟨a, Ca, vs, xs, fun b => (live L1 s1.os b ∨ B.Pv b) ∨ b = a, fl, rfl, by omega, er, ho, upd_same, RpAll.stay (stay_come hn) _ _ (datas_rp r1 q), q2, fun dx vfs hd ne hl2 hf => ?_⟩⟩
        have hd1 : H1 dx = none := by rw [upd_ne ne] at hd; exact hd
        refine ⟨rfl, dx, vfs, upd_same, by rw [upd_ne ne, upd_same], hd1, ?_⟩
        have sm : Same H1 (upd (del (upd (upd (upd H1 a (exo a Ca none)) dx (exd dx vfs)) a (exo a Ca (some dx))) a) dx (.xd vfs)) := fun b o eb => by
          have na := ne_of_none eb hn
          have nd := ne_of_none eb hd1
          rw [upd_ne nd, del_ne na, upd_ne na, upd_ne nd, upd_ne na]
          exact eb
        exact kk (.ref Ca) (some dx) _ L1 (R1.hr.same sm) (R1.gr.trans (.same sm)) R1.cf ⟨Ca, dx, vfs, hc, rfl, rfl, upd_same, fun f v hv => let ⟨u, h1, h2⟩ := hf f v hv; ⟨u, h1, Rp.stay (stay_gone hn sm) _ _ h2⟩⟩
      · cases e1
end FL
namespace FL
open PySem PySem.Spec PyProof.Rows L2
theorem spI_len {g : G} {gI : List PyData → Option (List (Str × PyData))} {ok : Addr → Prop} {n : Nat} (hg : ∀ xs fl, gI xs = some fl → xs.length + 1 = n) : ∀ vs H Q E, spI g gI ok vs H Q E → vs.length = n := fun vs H Q E ⟨a, C, us, xs, A, fl, e, _, _, _, _, r, q, _⟩ => by
  rw [e, List.length_cons, r.length]
  exact hg xs fl q
/-- an error that tells nothing of its argument -/
def gi1 : List PyData → Option (List (Str × PyData))
  | [_] => some []
  | _ => none
theorem gi1_len : ∀ xs fl, gi1 xs = some fl → xs.length + 1 = 2 := fun xs fl h => by
  match xs, h with
  | [x], _ => rfl
end FL
namespace FL
open PySem PySem.Spec PyProof.Rows L2
/-! ### an exception that was caught, kept behind its clause -/
theorem exR_ok {P : Program} {w : World} {H : Hp} {h : Heap} {a : Addr} {cls : Value} {d : Option Addr} {oe : Obj} {vs : Array Value} (e : h.get? a = some oe) (z : Zc cls d oe) (hd : oe.data = .fields vs) : ObjOk P w H h a (ExR cls d a) :=
  ⟨⟨oe, vs, e, z, hd⟩, ⟨oe, e⟩, fun _ _ ⟨o, v, q, r⟩ k => ⟨o, v, k o q, r⟩⟩
section
variable {X : Cx} {pins : List (Addr × Obj)} {σ : L2.St} {H : Hp} {s : Shared}
theorem inv_unsuite {a : Addr} {q : Addr × Obj} {pn' : List (Addr × Obj)} (I : L2.Inv (X.suite a (q :: (X.pn ++ pins))) pn' σ H s) (ok : X.Ok) : L2.Inv X (q :: pins) σ H s :=
  ⟨ok, I.os, I.bare, I.base, I.loc, I.cell, I.free, I.freeC, fun p hp => I.pin p (by
    refine List.mem_append_left _ ?_
    rcases List.mem_append.mp hp with h | h
    · exact List.mem_cons_of_mem _ (List.mem_append_left _ h)
    · rcases List.mem_cons.mp h with h | h
      · rw [h]; exact List.mem_cons_self
      · exact List.mem_cons_of_mem _ (List.mem_append_right _ h)), I.hok, I.len⟩
theorem inv_adopt {a : Addr} {oe : Obj} {o : HO} (I : L2.Inv X ((a, oe) :: pins) σ H s) (n0 : X.s_0.heap.get? a = none) (np : ∀ p ∈ X.pn ++ pins, p.1 ≠ a) (new : ObjOk X.prog X.w (upd H a o) s.heap a o) : L2.Inv X pins σ (upd H a o) s := by
  obtain ⟨pa, na, nL, nF, nc⟩ := I.pin (a, oe) (List.mem_append_right _ List.mem_cons_self)
  have ne0 : ∀ b u, X.s_0.heap.get? b = some u → b ≠ a := fun b u e z => by rw [z, n0] at e; cases e
  have neH : ∀ b u, H b = some u → b ≠ a := fun b u e z => by rw [z, na] at e; cases e
  refine ⟨I.ok, I.os, I.bare, ⟨I.base.keep, I.base.slot, fun b u e n hx => ?_, I.base.there, fun b xs e => ?_, fun b u v e => ?_, fun b ps e => ?_⟩, I.loc, I.cell, ?_, fun x c e => ?_, fun p hp => ?_, fun b u e => ?_, I.len⟩
  · rw [upd_ne (ne0 b u e)]
    exact I.base.free b u e n hx
  · have q := I.base.tups b xs e
    rw [upd_ne (neH b _ q)]
    exact q
  · have q := I.base.frzs b u v e
    rw [upd_ne (neH b _ q)]
    exact q
  · obtain ⟨m, q⟩ := I.base.tbls b ps e
    exact ⟨m, by rw [upd_ne (neH b _ q)]; exact q⟩
  · rw [upd_ne (Ne.symm nL)]
    exact I.free
  · have nac : c ≠ a := fun z => by
      obtain ⟨v, ob, e1, e2⟩ := I.cell x c e
      rw [z, pa] at e1
      cases e1
      exact nc v e2
    rw [upd_ne nac]
    exact I.freeC x c e
  · obtain ⟨q1, q2, q3⟩ := I.pin p (by
      rcases List.mem_append.mp hp with h | h
      · exact List.mem_append_left _ h
      · exact List.mem_append_right _ (List.mem_cons_of_mem _ h))
    exact ⟨q1, by rw [upd_ne (np p hp)]; exact q2, q3⟩
  · by_cases hb : b = a
    · subst hb
      rw [upd_same] at e
      cases e
      exact new
    · rw [upd_ne hb] at e
      exact (I.hok b u e).stay (fun c v _ q => q) (fun c q => by rw [upd_ne (neH c _ q)]; exact q) fun c xs q => by rw [upd_ne (neH c _ q)]; exact q
end
/-- what the clause wishes of an exception of the body; behind it the exception is tracked -/
def wKeep (len : Nat) (K : PySem.W.Frag) (c : Value) (i : Nat) (ts : Addr → Value → Option Addr → TS) (Wout : WX) (D : Ends) : WX := fun cls d σ H => σ.length = len →
  ∃ b, PySem.W.exmOne K cls c = some b ∧ (b = true → ∀ a, H a = none → ts a cls d { nx := fun σ' H' => D.nx (σ'.set i none) (upd H' a (ExR cls d a)), rt := fun _ _ => False, bk := fun _ _ => False, ct := fun _ _ => False } (σ.set i (some (.ref a))) H) ∧ (b = false → Wout cls d σ H)
section
variable {X : Cx} {x n : Str} {c : Value} {i : Nat} {body suite : List Stmt} {b₀ : Stmt} {np pos pos' : Pos} {tb : WX → TS} {ts : Addr → Value → Option Addr → TS} {Wout : WX}
theorem ps_try_keep (hs : X.stack = X.env :: X.outer) (hf : X.env.frame = some X.env.locals) (hN : X.N.Nodup) (hi : X.N[i]? = some n) (hln : X.env.kindOf n = some .local) (hc : Names X x c) (tk : Takes X Wout) (hx0 : X.ex = [])
    (hb : ∀ (W : WX) (pn : List (Addr × Obj)) (xe : Value → Shared → Prop), Takes (X.tr pn xe) W → PassesOwn (model X.prog X.w) X.A X.env xe → PSs (X.tr pn xe) body (tb W))
    (hsu : ∀ (a : Addr) (oe : Obj) (cls : Value) (d : Option Addr) (pn : List (Addr × Obj)), Zc cls d oe → (∃ vs, oe.data = .fields vs) → PSs (X.suite a ((a, oe) :: pn)) (b₀ :: suite) (ts a cls d)) :
    PS X (.Try body [.ExceptHandler (some (.Name x np)) (some n) (b₀ :: suite) pos'] [] [] pos) (fun D σ H => tb (wKeep X.N.length X.K c i ts Wout D) D σ H) := by
  refine ⟨fun pins s σ H D I h => ?_⟩
  have ok := I.ok
  have hfr : X.A.frames = some (X.env :: X.outer) := by rw [ok.frames, hs]
  have hloc : Loc X.env.scope n := .inl hln
  refine wpAny_Try_except ?_
  refine wpAny_mono ((hb (wKeep X.N.length X.K c i ts Wout D) (X.pn ++ pins) (fun e s₁ => wpAny (model X.prog X.w) X.A (noteFrame e X.env) (fun _ s₂ => wpAny (model X.prog X.w) X.A (setFlight e none) (fun _ s₃ =>
    wpAny (model X.prog X.w) X.A (handleBy e X.env [.ExceptHandler (some (.Name x np)) (some n) (b₀ :: suite) pos']) (SP X pins D) X.xe s₃) X.xe s₂) X.xe s₁) (fun u s' xx => ?_) PassesOwn.looking).run [] s σ H D (I.toTry _) h) (fun f s1 hsp => ?_) (fun e s1 he => he)
  · obtain ⟨a, B, sI, pins', σ', H', cls, d, rfl, J', nb, up, sky, na, os, ag, ww⟩ := xx
    have J : L2.Inv X pins σ' H' sI := J'.ofTry ok
    obtain ⟨b, hb1, hyes, hno⟩ := ww J.len
    have sky' : Sky B (X.env :: X.outer) a (Zc cls d) X.env.locals s'.heap := by rw [← hs]; exact sky
    show wpAny (model X.prog X.w) X.A (noteFrame (.ref a) X.env) _ _ _
    refine Sky.land Zc.steady hfr hf sky' fun h3 fl3 up3 => ?_
    have J3 : L2.Inv X pins σ' H' { s' with heap := h3 } := J.landed nb fl3.1 (up.trans up3) os ag
    obtain ⟨oe3, vs3, he3, hz3, hd3⟩ := fl3.there
    have notFr : ∀ {h : Heap} {o : Obj} {vs : Array Value}, h.FunFrames B (X.env :: X.outer) → h.get? a = some o → o.data = .fields vs → a ∉ frs (X.env :: X.outer) := fun {h o vs} ff e dd hm => by
      obtain ⟨_, o', e', hnf⟩ := ff.mem hm
      rw [e] at e'; cases e'
      exact hnf _ dd
    have nfr := notFr fl3.2.2.1 he3 hd3
    have nL : a ≠ X.env.locals := fun z => nfr (List.mem_filterMap.mpr ⟨X.env, List.mem_cons_self, by rw [hf, z]⟩)
    have nF : a ∉ X.fs := fun hm => by
      obtain ⟨e, he, q⟩ := List.mem_filterMap.mp hm
      exact nfr (List.mem_filterMap.mpr ⟨e, List.mem_cons_of_mem _ he, q⟩)
    have nI : sI.heap.get? a = none := by
      cases q : sI.heap.get? a with
      | none => rfl
      | some o =>
        have z := nb a o q (by show a ∉ frs X.stack; rw [hs]; exact nfr)
        rw [fl3.2.1] at z
        cases z
    have n0 : X.s_0.heap.get? a = none := by
      cases q : X.s_0.heap.get? a with
      | none => rfl
      | some o =>
        obtain ⟨o', z⟩ := J.base.there a o q (by rw [hx0]; exact fun z => nomatch z)
        rw [nI] at z
        cases z
    have np' : ∀ p ∈ X.pn ++ pins, p.1 ≠ a := fun p hp z => by
      have q := (J.pin p hp).1
      rw [z, nI] at q
      cases q
    have S3 := J3.suite he3 hd3 na nL nF
    refine wpAny_handleBy_cons (codeAny_handlers_test ?_) (by intro q; cases q)
    have LT : PySem.W.Looks (model X.prog X.w) h3 (typeOf (.ref a)) cls := fun A Q E s k q => wpAny_typeOf_ref (k _ _ he3) (by rw [hz3.1]; exact q)
    have LM := PySem.W.exm_one (M := model X.prog X.w) (J3.kIn) LT hb1
    have test : ∀ {Q : Value → Shared → Prop} {E : Value → Shared → Prop}, Q c { s' with heap := h3 } → wpAny (model X.prog X.w) (X.A.mark (some (.ref a))) (eval (.Name x np) X.env) Q E { s' with heap := h3 } := fun {Q E} q => by
      obtain ⟨hg, hdbg, hm | ⟨hm, hv, hnn⟩⟩ := hc
      · exact ld_glob (X := X.suite a ((a, oe3) :: (X.pn ++ pins))) S3 hg hm q hdbg
      · exact ld_blt (X := X.suite a ((a, oe3) :: (X.pn ++ pins))) S3 hg hm hv q hnn hdbg
    refine test (LM.here ?_)
    cases b with
    | true =>
      refine codeAny_handlers_suite_as ?_
      refine HandSPX.lands_againZ fl3 fun h4 fl4 up4 => ?_
      have J4 : L2.Inv X pins σ' H' { s' with heap := h4 } := J.landed nb fl4.1 ((up.trans up3).trans up4) os ag
      obtain ⟨oe4, vs4, he4, hz4, hd4⟩ := fl4.there
      have S4 := J4.suite he4 hd4 na nL nF
      refine store_ok (X := X.suite a ((a, oe4) :: (X.pn ++ pins))) (v := .ref a) S4 hN hi hloc rfl (fun s5 S5 => ?_) (.inr hln)
      refine wpAny_mono ((hsu a oe4 cls d (X.pn ++ pins) hz4 ⟨_, hd4⟩).run [] s5 _ H' _ S5 (hyes rfl a na)) (fun f s6 hsp => ?_) (fun _ _ z => False.elim z)
      cases f with
      | next =>
        obtain ⟨σ6, H6, S6, q6⟩ := hsp
        refine gone_ok (inv_unsuite S6 ok) hN hi hln fun s7 J7 => ?_
        obtain ⟨p7, _⟩ := J7.pin (a, oe4) (List.mem_append_right _ List.mem_cons_self)
        exact ⟨_, _, inv_adopt J7 n0 np' (exR_ok p7 hz4 hd4), q6⟩
      | brk =>
        obtain ⟨_, _, _, q⟩ := hsp
        exact False.elim q
      | cont =>
        obtain ⟨_, _, _, q⟩ := hsp
        exact False.elim q
      | ret u =>
        obtain ⟨_, _, _, _, _, q⟩ := hsp
        exact False.elim q
    | false =>
      show wpAny _ X.A (handleBy (.ref a) X.env []) _ _ _
      refine wpAny_handleBy_nil ?_
      obtain ⟨k1, k2, k3, oe, vs, T, oT, ts', he, hz, hd, h1, hr⟩ := id fl3
      unfold PySem.passOn
      refine wpAny_bind (wpAny_field he hd h1 ?_)
      rw [if_neg (show ¬ ((Value.ref T == Value.none) = true) from by simp)]
      have fin : wpAny (model X.prog X.w) X.A (setFlight (.ref a) X.env.frame) (fun _ s4 => wpAny (model X.prog X.w) X.A (throw (.ref a) : Sem Flow) (SP X pins D) X.xe s4) X.xe { s' with heap := h3 } := by
        rw [hf]
        refine HandSPX.setFlight_upZ fl3 fun h4 hh4 up4 => wpAny_throw (tk _ _ ?_)
        exact ⟨a, B, sI, pins, σ', H', cls, d, rfl, J, nb, (up.trans up3).trans up4, .inr (.inr (by rw [hs]; exact hh4)), na, os, ag, hno rfl⟩
      first
        | exact wpAny_bind (wpAny_pure (wpAny_bind fin))
        | exact wpAny_bind fin
  · cases f with
    | next =>
      obtain ⟨σ', H', J', q⟩ := hsp
      exact wpAny_execs_nil ⟨σ', H', J'.ofTry ok, q⟩
    | brk =>
      obtain ⟨σ', H', J', q⟩ := hsp
      exact ⟨σ', H', J'.ofTry ok, q⟩
    | cont =>
      obtain ⟨σ', H', J', q⟩ := hsp
      exact ⟨σ', H', J'.ofTry ok, q⟩
    | ret u =>
      obtain ⟨v, σ', H', J', r, q⟩ := hsp
      exact ⟨v, σ', H', J'.ofTry ok, r, q⟩
end
end FL
namespace FL
open PySem PySem.Spec PyProof.Rows L2 LamX
/-! ### what a lambda raised -/
def tabO (q : Str) : Option Ob → Bool
  | some (.tab q') => decide (q' = q)
  | _ => false
def mErr (q : Str) (errs : List Str) (m : FM W) : FM W := fun s => if tabO q s.os[0]? = true then (match m ⟨s.sl, s.os, []⟩ with
  | some (.ok _ s1) => some (.ok (.d .none) ⟨s.sl, s1.os, s.es ++ s1.es⟩)
  | some (.ex e s1) => if e.c ∈ errs then some (.ok (.exc e) ⟨s.sl, s1.os, s.es ++ s1.es⟩) else none
  | none => none) else none
/-- behind the making of a lambda -/
theorem RS.lam {B : Bs} {L : List Addr} {s : AS} {σ : L2.St} {H H1 : Hp} {q : Str} (hP : ∀ a, ¬ B.Pv a) (R : RS B L s σ H) (eN : ExtN H H1) (ht : TabS H1 B.g.T.tab q) (hq : s.os[0]? = some (.tab q)) :
    Gr L s.os H L s.os H1 ∧ RS B L s σ H1 := by
  have gr : Gr L s.os H L s.os H1 := ⟨fun _ _ h => h, Nat.le_refl _, fun a o t e n => ⟨eN a o e t, n⟩⟩
  refine ⟨gr, ⟨R.hr.len, R.hr.inj, fun n a e => ?_, fun n a o e1 e2 => ?_, R.hr.wf, fun a p => absurd p (hP a), R.hr.tb⟩, R.len, fun i w e => let ⟨v, e1, r⟩ := R.sl i w e; ⟨v, e1, RpW.mono R.hr gr r⟩, R.gr.trans gr, R.cf⟩
  · obtain ⟨o, e1, t⟩ := R.hr.dfd n a e
    by_cases nt : NT o
    · exact ⟨o, eN a o e1 nt, .inl nt⟩
    · rcases t with t | t
      · exact absurd t nt
      · obtain ⟨ps, h, _⟩ := ht
        exact ⟨_, t ▸ h, .inr t⟩
  · have keep : ∀ {a : Addr} {o : Ob}, (∀ q, o ≠ .tab q) → ObR B.g B.Pv L s.os H a o → ObR B.g B.Pv L s.os H1 a o := fun {a o} nt h => by
      cases h with
      | dead => exact .dead
      | lst h q => exact .lst (eN _ _ h nt_lst) (q.mono R.hr gr)
      | dK h k q => exact .dK (eN _ _ h nt_dK) (k.mono R.hr gr) (q.mono R.hr gr)
      | dN h k n q => exact .dN (eN _ _ h nt_ext) (k.mono R.hr gr) n (q.mono R.hr gr)
      | ins c h n q => exact .ins c (eN _ _ h fun _ z => nomatch z) n (q.mono R.hr gr)
      | tab _ _ _ _ => exact absurd rfl (nt _)
    cases o with
    | tab q' =>
      have h0 := R.hr.tb n q' e2
      subst h0
      rw [hq] at e2
      cases e2
      cases R.hr.ob 0 a _ e1 hq with
      | tab ea _ _ _ =>
        obtain ⟨ps, h, t, k⟩ := ht
        exact .tab ea (ea ▸ h) t fun p cv z => let ⟨c, z1, z2⟩ := k p cv z; ⟨c, z1, z2, hP c⟩
    | _ => exact keep (fun q z => nomatch z) (R.hr.ob n a _ e1 e2)
theorem tab_at {g : G} {Pv : Addr → Prop} {L : List Addr} {os : List Ob} {H : Hp} {q : Str} (R : HR g Pv L os H) (hq : os[0]? = some (.tab q)) : L[0]? = some g.T.tab ∧ TabS H g.T.tab q := by
  have hl : 0 < L.length := by
    rw [R.len]
    exact (List.getElem?_eq_some_iff.mp hq).1
  have e1 : L[0]? = some L[0] := List.getElem?_eq_getElem hl
  cases R.ob 0 _ _ e1 hq with
  | tab ea h t k => exact ⟨by rw [e1, ea], _, ea ▸ h, t, fun p cv z => let ⟨c, z1, z2, _⟩ := k p cv z; ⟨c, z1, z2⟩⟩
/-- what _law_error makes of what the lambda does -/
def TErr (K : PySem.W.Frag) (CS : Addr) : (XK → Hp → VK → Prop) → Hp → VK → Prop := fun tl H Q =>
  tl (fun cls d H' => ∃ b, PySem.W.exmOne K cls (.ref CS) = some b ∧ (b = true → ∀ a, H' a = none → Q (.ref a) (upd H' a (ExR cls d a))) ∧ (b = false → False)) H (fun _ H' => ∃ v, (some (some V.non) : Option (Option V)) = some (some v) ∧ Q v H')
/-- where the errors' classes stand below CS -/
def ErrsIn (g : G) (CS : Addr) (errs : List Str) : Prop := ∀ c ∈ errs, ∀ C, g.T.cls c = some C → PySem.W.exmOne g.K (.ref C) (.ref CS) = some true
theorem mErr_run {B : Bs} {q : Str} {errs : List Str} {m : FM W} {CS : Addr} {K : PySem.W.Frag} (hK : K = B.g.K) (hP : ∀ a, ¬ B.Pv a) (hE : ErrsIn B.g CS errs) {σ : L2.St} {H : Hp} {Q : VK} (h : fE B (mErr q errs m) σ H Q) :
    tLam [(B.g.T.tab, q)] (TErr K CS) (fun E σ H Q => ∃ B' : {B' : Bs // B'.g = B.g ∧ B'.E = E}, fE B'.1 m σ H Q) σ H Q := by
  obtain ⟨L, s, o, R, e, k⟩ := h
  unfold mErr at e
  split at e
  · rename_i hq
    have hq : s.os[0]? = some (.tab q) := by
      unfold tabO at hq
      split at hq
      · rename_i q' h
        rw [h, of_decide_eq_true hq]
      · cases hq
    obtain ⟨hL, hT⟩ := tab_at R.hr hq
    refine ⟨fun p hp => ?_, fun H1 eN T1 => ?_⟩
    · rw [List.mem_singleton.mp hp]
      exact hT
    · obtain ⟨gr, R1⟩ := RS.lam hP R eN (T1 _ List.mem_cons_self) hq
      refine ⟨⟨⟨B.g, B.Pv, L, s.os, H1, fun cls d H' => ∃ b, PySem.W.exmOne K cls (.ref CS) = some b ∧ (b = true → ∀ a, H' a = none → Q (.ref a) (upd H' a (ExR cls d a))) ∧ (b = false → False)⟩, rfl, rfl⟩, ?_⟩
      have R2 : RS ⟨B.g, B.Pv, L, s.os, H1, fun cls d H' => ∃ b, PySem.W.exmOne K cls (.ref CS) = some b ∧ (b = true → ∀ a, H' a = none → Q (.ref a) (upd H' a (ExR cls d a))) ∧ (b = false → False)⟩ L ⟨s.sl, s.os, []⟩ σ H1 := ⟨R1.hr, R1.len, R1.sl, .refl, .refl⟩
      have back : ∀ {L2 : List Addr} {os2 : List Ob} {H2 : Hp} {es2 : List Nat}, HR B.g B.Pv L2 os2 H2 → Gr L s.os H1 L2 os2 H2 → Cf s.os os2 es2 → RS B L2 ⟨s.sl, os2, s.es ++ es2⟩ σ H2 := fun {L2 os2 H2 es2} h g c =>
        ⟨h, R1.len, fun i w e => let ⟨v, e1, r⟩ := R1.sl i w e; ⟨v, e1, RpW.mono R1.hr g r⟩, R1.gr.trans g, R1.cf.trans R1.gr.len c⟩
      split at e
      · rename_i w s1 hm
        cases e
        exact ⟨L, _, _, R2, hm, fun v H2 L2 R3 r3 g3 => ⟨.non, rfl, k .non H2 L2 (back R3.hr g3 R3.cf) .non (gr.trans g3)⟩⟩
      · rename_i x s1 hm
        split at e
        · rename_i hx
          cases e
          refine ⟨L, _, _, R2, hm, fun cls d H2 L2 h2 g2 c2 xp => ?_⟩
          obtain ⟨C, dx, fs, h1, h2', h3, h4, h5⟩ := xp
          subst h2' h3
          refine ⟨true, hK ▸ hE _ hx C h1, fun _ a ha => ?_, fun z => nomatch z⟩
          have sm : Same H2 (upd H2 a (ExR (.ref C) (some dx) a)) := new_same ha
          have g3 : Gr L2 s1.os H2 L2 s1.os (upd H2 a (ExR (.ref C) (some dx) a)) := .same sm
          refine k (.ref a) _ L2 (back (h2.same sm) (g2.trans g3) c2) ⟨a, .ref C, some dx, rfl, fun z => z.elim (fun z => h2.nolive ha z) fun z => hP a z, upd_same, C, dx, fs, h1, rfl, rfl, sm _ _ h4, fun f v hv => ?_⟩ (gr.trans (g2.trans g3))
          obtain ⟨u, q1, q2⟩ := h5 f v hv
          exact ⟨u, q1, Rp.stay (g3.stay h2) _ _ q2⟩
        · cases e
      · cases e
  · cases e
end FL
namespace FL
open PySem PySem.Spec PyProof.Rows L2 LamX
/-! ### x(lambda: e), isinstance of an error, its attributes -/
/-- how a def that keeps what its argument raises stands -/
structure Keeps (g : G) (mg : Str → Option Value) (x a : Str) (st : Stmt) : Prop where
  ex : ∃ (f : Addr) (fd : FuncData), mg x = some (.ref f) ∧ Fun g.K x x st f fd
theorem f_lamErr {X : Cx} {B : Bs} {mg : Str → Option Value} {base : Heap} {x a : Str} {st : Stmt} {CS c : Addr} {k : Nat} {Ng : List Str} {errs : List Str} {m : FM W} {params : Arguments} {body : Expr} {scope : Scope} {p lpos pos : Pos} (O : On X B.g mg base) (C : HasF B.g mg x st)
    (hP : ∀ a, ¬ B.Pv a) (hE : ErrsIn B.g CS errs) (hb : ∀ f fd, Fun B.g.K x x st f fd → L2.Binds B.g.K fd [a] []) (Sg : FnScope Ng [a] (defScope st)) (hNg : Ng[0]? = some a) (hva : Vis (defScope st) a)
    (hG : ∀ f cdv, GivesTo X Ng x (defScope st) f cdv (defBody st) a (X.env.qual ++ "<lambda>") (TErr X.K CS)) (TB : TabB X.base X.mg c B.g.T.tab) (hcode : X.env.code = .ref c) (hr : Room (k + 2) X.A) (L : LamS X.env.scope scope) (hdef : defaultsOf params X.env = ([], []))
    (hbind : ∀ (q : Str) (cl : List (Str × Addr)) (pm cv ctv : Value), bindArgs (PySem.W.kla_fn "<lambda>" q params body scope cl pm cv ctv) ⟨[], []⟩ = pure [])
    (hbody : ∀ (A : Around) (outer : List Env) (s : Shared) (H : Hp) (E : XK) (f c' : Addr) (B' : Bs), B'.g = B.g → B'.E = E → Room k (A.deeper (lamEnv X scope s.heap.objs.size f c')) → PE (lamCx X A outer s H E scope f c') body (fE B' m)) (hg : Gl X x := by rfl)
    (hdb : (x == ("__debug__" : Str)) = false := by decide) (hd : (a == ("__debug__" : Str)) = false := by decide) (hcd : (a == ("__classdict__" : Str)) = false := by decide) :
    PE X (.Call (.Name x p) [.Lambda params body scope lpos] [] pos) (fE B (mErr (X.env.qual ++ "<lambda>") errs m)) := by
  obtain ⟨f, fd, hm, F⟩ := C.ex
  have hbd := hb f fd F
  have kp := F.kp
  obtain ⟨oc, od, kV, doc, pm, an, cdv, ct, osl, rfl, lk, hcg⟩ := F.ex
  refine PE.imp (pe_lamcall (T := [(B.g.T.tab, X.env.qual ++ "<lambda>")]) (t := fun E σ H Q => ∃ B' : {B' : Bs // B'.g = B.g ∧ B'.E = E}, fE B'.1 m σ H Q) hg (by rw [O.m]; exact hm) (O.k ▸ kp) (O.k ▸ lk) (O.k ▸ hcg) (O.k ▸ hbd) Sg hNg hva (hG f cdv) TB hcode List.mem_cons_self
    (fun q hq _ => by rw [List.mem_singleton.mp hq]) hr L hdef hbind (fun A outer s H E f c' hr' => PE.ex fun B' => hbody A outer s H E f c' B'.1 B'.2.1 B'.2.2 hr') hdb hd hcd) fun σ H Q h => mErr_run O.k hP hE h
/-! ### isinstance(e, C) -/
def gIsX (errs : List Str) (c : Str) (os : List Ob) (w : W) : Option W := match w with
  | .exc e => if e.c ∈ errs then some (.d (.bool (decide (e.c = c)))) else none
  | _ => none
/-- what the classes of the errors say of one another -/
structure Kits (g : G) (mg : Str → Option Value) (errs : List Str) : Prop where
  cls : ∀ c ∈ errs, ∀ C, g.T.cls c = some C → mg c = some (.ref C) ∧ XNm.ClsRd g.K C
  kit : ∀ c ∈ errs, ∀ d ∈ errs, ∀ C D, g.T.cls c = some C → g.T.cls d = some D → PySem.W.kitOne g.K (.ref C) (.ref D) = some (decide (c = d))
  dfn : ∀ c ∈ errs, ∃ C, g.T.cls c = some C
/-- an error that is kept, in the heap -/
theorem exR_inst {X : Cx} {pins : List (Addr × Obj)} {σ : L2.St} {H : Hp} {s : Shared} {a C dx : Addr} {fs : List (Str × V)} (I : Inv X pins σ H s) (h : H a = some (ExR (.ref C) (some dx) a)) (hd : H dx = some (.xd fs)) : ∃ ox od, PySem.W.InstAt s.heap a ox C (some od) ∧ ∀ f v, fs.lookup f = some v → ∃ u, PySem.W.lookIn f od = some (some u) ∧ RelV v u := by
  obtain ⟨⟨oe, vs, h1, hz, hdd⟩, _⟩ := (show ObjOk X.prog X.w H s.heap a (ExR (.ref C) (some dx) a) from I.hok a _ h)
  obtain ⟨mA, hns, rel⟩ := (show ObjOk X.prog X.w H s.heap dx (.xd fs) from I.hok dx _ hd)
  obtain ⟨oc, od, oda, osl⟩ := oe
  obtain ⟨z1, z2⟩ := hz
  dsimp only at z1 z2 hdd
  subst z1 z2 hdd
  obtain ⟨od, hod, hl⟩ := lookIn_ns hns
  refine ⟨_, od, ⟨h1, rfl, rfl, hod⟩, fun f v e => ?_⟩
  obtain ⟨u, hu, ru⟩ := RelO.some_of (v := v) (o := mA f) (by rw [← e]; exact rel f)
  exact ⟨u, by rw [hl, hu], ru⟩
/-- isinstance(e, c): e an error that is kept -/
def rIsE (g : G) : List V → Hp → VK → Prop := fun xs H Q => ∃ (a C dx : Addr) (fs : List (Str × V)) (D : Addr) (b : Bool), xs = [.ref a, .ref D] ∧ H a = some (ExR (.ref C) (some dx) a) ∧ H dx = some (.xd fs) ∧ XNm.ClsRd g.K C ∧ PySem.W.kitOne g.K (.ref C) (.ref D) = some b ∧ Q (.bl b) H
theorem call_isE {X : Cx} {g : G} (hK : X.K = g.K) : CallR X (.builtin "isinstance") (rIsE g) := fun pins s σ H xs us Q I r h => by
  obtain ⟨a, C, dx, fs, D, b, rfl, ha, hd, c, e, q⟩ := h
  obtain ⟨u1, u2, rfl, r1, r2⟩ := vals2 r
  obtain rfl : u1 = Value.ref a := r1
  obtain rfl : u2 = Value.ref D := r2
  obtain ⟨ox, od, J, _⟩ := exR_inst I ha hd
  rw [← hK] at c e
  exact PySem.W.kia_one (PySem.W.kitx_exc (x := a) (ox := ox) (od := some od) c.cl c.g1 c.g2 c.sb c.at_ c.gs c.tk c.mr) I.kIn J e (fun z => nomatch z) fun tk => ⟨.bl b, H, I.tok tk, rfl, q⟩
section
variable {X : Cx} {B : Bs} {e : Expr} {m : FM W} {mg : Str → Option Value} {base : Heap} {p p2 pos : Pos}
theorem f_isX {c : Str} {errs : List Str} (O : On X B.g mg base) (Kt : Kits B.g mg errs) (hc : c ∈ errs) (hm : X.mg "isinstance" = none) (he : PE X e (fE B m)) (hg : Gl X "isinstance" := by rfl) (hg2 : Gl X c := by rfl) (d2 : (c == ("__debug__" : Str)) = false := by decide)
    (hs : starEach [e, .Name c p2] X.env = (false, eval e X.env) :: starEach [.Name c p2] X.env := by rfl) (hs2 : starEach [.Name c p2] X.env = (false, eval (.Name c p2) X.env) :: starEach [] X.env := by rfl) (hpl : (backTo pos (starEach [.Name c p2] X.env)).any (·.1) = false := by rfl) :
    PE X (.Call (.Name "isinstance" p) [e, .Name c p2] [] pos) (fE B (mOp1 (gIsX errs c) m)) := by
  obtain ⟨D, hD⟩ := Kt.dfn c hc
  have hmD := (Kt.cls c hc D hD).1
  refine PE.imp (pe_callB (call_isE (g := B.g) O.k) hg hm (by decide +kernel) (pa_cons he (pa_cons (pe_glob (v := .ref D) (u := .ref D) hg2 (by rw [O.m]; exact hmD) rfl d2) pa_nil hs2) hs) (by decide) (by decide) hs hpl) fun σ H Q h => ?_
  obtain ⟨L, s, o, R, e, k⟩ := fE.op1 h
  refine ⟨L, s, o, R, e, ?_⟩
  cases o with
  | ex x s1 => exact k
  | ok w s1 =>
    refine fun v H1 L1 R1 r1 g1 => ?_
    obtain ⟨L2, os, w2, r, R2, rw2, e2, k2⟩ := k v H1 L1 R1 r1 g1
    match w2, rw2, e2 with
    | .exc x, rw2, e2 =>
      have e2 : (if x.c ∈ errs then some (W.d (.bool (decide (x.c = c)))) else none) = some r := e2
      split at e2
      · rename_i hx
        cases e2
        obtain ⟨a, cls, d, rfl, n, ha, C, dx, fs, h1, rfl, rfl, h4, h5⟩ := rw2
        exact ⟨a, C, dx, fs, D, _, rfl, ha, h4, (Kt.cls _ hx C h1).2, Kt.kit _ hx c hc C D h1 hD, k2 _ H1 (Same.refl _) (Rp.bl _)⟩
      · cases e2
end
end FL
namespace FL
open PySem PySem.Spec PyProof.Rows L2
/-! ### repr -/
def tfS (b : Bool) : Str := if b then "True" else "False"
/-- of a truth; of a tuple or a list, where nothing is being shown -/
def reprD (x : PyData) : Option Str := match x with
  | .bool b => some (tfS b)
  | _ => none
def reprG (x : PyData) : Option Str := match x with
  | .bool b => some (tfS b)
  | .tuple xs => if ((PyData.tuple xs).canLay0 && (PyData.tuple xs).showable && !(PyData.tuple xs).hasDict && decide ((PyData.tuple xs).shown.length ≤ big) && decide ((PyData.tuple xs).depth ≤ 10)) = true then some (PyData.tuple xs).shown else none
  | .list xs => if ((PyData.list xs).canLay0 && (PyData.list xs).showable && !(PyData.list xs).hasDict && decide ((PyData.list xs).shown.length ≤ big) && decide ((PyData.list xs).depth ≤ 10)) = true then some (PyData.list xs).shown else none
  | _ => none
def gRepr (os : List Ob) (ws : List W) : Option W := match ws with
  | [.d x] => (reprD x).map fun z => .d (.str z)
  | _ => none
def gReprG (os : List Ob) (ws : List W) : Option W := match ws with
  | [.d x] => (reprG x).map fun z => .d (.str z)
  | _ => none
section
variable {X : Cx} {B : Bs}
theorem call_repr_bl : CallR X (.builtin "repr") (fun xs H Q => ∃ b, xs = [.bl b] ∧ Q (.str (tfS b)) H) := fun pins s σ H xs us Q I r h => by
  obtain ⟨b, rfl, q⟩ := h
  obtain ⟨u, rfl, ru⟩ := r.one
  cases ru
  exact call_repr_gives (show s.TypeIs (.bool b) "bool" from rfl) F.slot_bool_repr F.entry_bool_repr (F.args_bool_repr_1 _) (gives_bool_repr b) ⟨.str (tfS b), H, I.tok _, ⟨_, rfl⟩, q⟩ rfl (by cases b <;> decide +kernel)
theorem repr_ok : CallR X (.builtin "repr") (rFn B gRepr) := CallR.imp call_repr_bl fun xs H Q ⟨L, os, ws, r, R, rw_, e, k⟩ => by
  unfold gRepr at e
  split at e
  · rename_i x
    cases rw_ with
    | cons r1 t =>
      cases t
      cases x with
      | bool b =>
        cases e
        cases (show Rp B.g.P B.g.w B.g.K H _ _ (.bool b) from r1)
        exact ⟨b, rfl, k _ H (Same.refl H) (Rp.str _)⟩
      | _ => cases e
  · cases e
theorem call_reprD (hg : X.A.guards = some []) (hu : X.A.units + 64 < cLine) : CallR X (.builtin "repr") (fun xs H Q => ∃ (a : Addr) (d : PyData), xs = [.ref a] ∧ Dp X.K H (.ref a) d ∧ d.showable = true ∧ d.hasDict = false ∧ d.shown.length ≤ sizeLine ∧ d.depth ≤ 10 ∧ Q (.str d.shown) H) := fun pins s σ H xs us Q I rv h => by
  obtain ⟨a, d, rfl, hd, h1, h2, h3, h4, q⟩ := h
  obtain ⟨u, rfl, ru⟩ := rv.one
  cases ru
  obtain ⟨as, r⟩ := Dp.reads I d _ _ hd rfl
  exact repr_of_reads' r h1 (fun e => by rw [h2] at e; cases e) hg (by omega) (fun _ _ e => e) (fun h' u tk hk => ⟨.str d.shown, H, I.kept (t' := tk) hk, ⟨_, rfl⟩, q⟩) h3
theorem reprG_ok (hK : X.K = B.g.K) (hg : X.A.guards = some []) (hu : X.A.units + 64 < cLine) : CallR X (.builtin "repr") (rFn B gReprG) := CallR.imp (call_repr_bl.or (call_reprD hg hu)) fun xs H Q ⟨L, os, ws, r, R, rw_, e, k⟩ => by
  have go : ∀ {v : V} {d : PyData} {a : Addr}, v = .ref a → Rp B.g.P B.g.w B.g.K H (fun a => live L os a ∨ B.Pv a) v d → (d.canLay0 && d.showable && !d.hasDict && decide (d.shown.length ≤ big) && decide (d.depth ≤ 10)) = true → (r = .d (.str d.shown)) →
      ∃ (a : Addr) (d : PyData), [v] = [V.ref a] ∧ Dp X.K H (.ref a) d ∧ d.showable = true ∧ d.hasDict = false ∧ d.shown.length ≤ sizeLine ∧ d.depth ≤ 10 ∧ Q (.str d.shown) H := fun {v d a} ev rp hh er => by
    subst ev er
    simp only [Bool.and_eq_true, Bool.not_eq_true', decide_eq_true_eq] at hh
    obtain ⟨⟨⟨⟨h1, h2⟩, h3⟩, h4⟩, h5⟩ := hh
    exact ⟨a, d, rfl, hK ▸ Rp.dp d _ h1 rp, h2, h3, big_line h4, h5, k _ H (Same.refl H) (Rp.str _)⟩
  unfold gReprG at e
  split at e
  · rename_i x
    cases rw_ with
    | @cons v _ _ _ r1 t =>
      cases t
      cases x with
      | bool b =>
        cases e
        cases (show Rp B.g.P B.g.w B.g.K H _ _ (.bool b) from r1)
        exact .inl ⟨b, rfl, k _ H (Same.refl H) (Rp.str _)⟩
      | tuple xs =>
        unfold reprG at e
        dsimp only at e
        split at e
        · rename_i hh
          cases e
          obtain ⟨a, vs, rfl, _⟩ := rp_tup r1
          exact .inr (go rfl r1 hh rfl)
        · cases e
      | list xs =>
        unfold reprG at e
        dsimp only at e
        split at e
        · rename_i hh
          cases e
          have r2 : Rp B.g.P B.g.w B.g.K H (fun a => live L os a ∨ B.Pv a) v (.list xs) := r1
          cases r2 with
          | @lst a vs xs h n rr => exact .inr (go rfl (.lst h n rr) hh rfl)
        · cases e
      | _ => cases e
  · cases e
end
/-! ### a call by keywords alone: perm tells which of the keywords' values each parameter gets -/
structure CalK (g : G) (mg : Str → Option Value) (base : Heap) (x : Str) (k : Nat) (ps : List Str) (F : Fn) (ks : List Str) (perm : List Nat) : Prop where
  ex : ∃ (f : Addr) (fd : FuncData), mg x = some (.ref f) ∧ PySem.W.keepIn g.K (.ref f) = true ∧ KBn g.K fd ps 0 ks (fun _ ws => perm.map fun i => ws.getD i .none) (fun _ zs => perm.map fun i => zs.getD i .non) ∧ FnOk g.P g.w g.K mg base (L2.CX g.P g.w) k f fd ps (spF g ps.length F)
theorem vals_perm {zs : List V} {ws : List Value} (r : Vals zs ws) : ∀ perm : List Nat, Vals (perm.map fun i => zs.getD i .non) (perm.map fun i => ws.getD i .none)
  | [] => .nil
  | i :: is => by
    refine .cons ?_ (vals_perm r is)
    induction r generalizing i with
    | nil => exact rfl
    | cons h _ ih =>
      cases i with
      | zero => exact h
      | succ j => simpa using ih j
theorem Fun.kb {K : PySem.W.Frag} {x qual : Str} {st : Stmt} {f : Addr} {fd : FuncData} {ps ks : List Str} {perm : List Nat} (F : Fun K x qual st f fd)
    (h : ∀ (kV doc pm : Value) (an : Option Addr) (cdv ct : Value) (ws : List Value), ws.length = ks.length → bindArgs (PySem.W.fnOf x qual (defArgs st) (defBody st) (defScope st) .none kV doc pm an cdv ct) ⟨[], ks.zip ws⟩ = pure (ps.zip (perm.map fun i => ws.getD i .none))) :
    KBn K fd ps 0 ks (fun _ ws => perm.map fun i => ws.getD i .none) (fun _ zs => perm.map fun i => zs.getD i .non) := by
  obtain ⟨oc, od, kV, doc, pm, an, cdv, ct, osl, rfl, lk, hcd⟩ := F.ex
  refine ⟨fun s us ws _ h0 hl => ?_, fun _ r => vals_perm r perm⟩
  match us, h0 with
  | [], _ => exact .of_eq (h kV doc pm an cdv ct ws hl)
theorem RpWs.perm {g : G} {Pv : Addr → Prop} {L : List Addr} {os : List Ob} {H : Hp} {vs : List V} {ws : List W} (r : RpWs g Pv L os H vs ws) : ∀ perm : List Nat, RpWs g Pv L os H (perm.map fun i => vs.getD i .non) (perm.map fun i => ws.getD i (.d .none))
  | [] => .nil
  | i :: is => by
    refine .cons ?_ (RpWs.perm r is)
    induction r generalizing i with
    | nil => exact Rp.non
    | cons h _ ih =>
      cases i with
      | zero => exact h
      | succ j => simpa using ih j
def mCallK (n : Nat) (perm : List Nat) (F : Fn) (ms : FM (List W)) : FM W := ms.bind fun ws => run1 n F (perm.map fun i => ws.getD i (.d .none))
/-- the values of keywords -/
theorem fk_nil {X : Cx} {B : Bs} : PK X [] (fA B mNil) := ⟨fun pos pins s σ H Q I ⟨L, st, o, R, e, k⟩ => by
  cases e
  exact pk_nil.run pos pins s σ H Q I (k [] H L R .nil .refl)⟩
theorem fk_cons {X : Cx} {B : Bs} {e : Expr} {nm : Option Str} {kpos : Pos} {kws : List Keyword} {m : FM W} {ms : FM (List W)} (ha : PE X e (fE B m)) (hr : PK X kws (fA B ms)) : PK X (⟨nm, e, kpos⟩ :: kws) (fA B (mCons m ms)) := ⟨fun pos pins s σ H Q I ⟨L, st, o, R, e, k⟩ => by
  refine (pk_cons ha hr).run pos pins s σ H Q I ?_
  refine fE.bind R e k.ex fun w s1 v H1 L1 e1 R1 r1 g1 => ?_
  refine fA.bind R1 e1 k.ex fun ws s2 vs H2 L2 e2 R2 r2 g2 => ?_
  cases e2
  exact k (v :: vs) H2 L2 R2 (.cons (RpW.mono R1.hr g2 r1) r2) (g1.trans g2)⟩
theorem f_callK {X : Cx} {B : Bs} {mg : Str → Option Value} {base : Heap} {x : Str} {k : Nat} {ps ks : List Str} {perm : List Nat} {F : Fn} {kws : List Keyword} {ms : FM (List W)} {p pos : Pos} (O : On X B.g mg base) (C : CalK B.g mg base x k ps F ks perm) (hl : ks.length = kws.length) (hr : Room k X.A) (tk : Takes X (fun cls d _ H => B.E cls d H)) (ha : PK X kws (fA B ms)) (hg : Gl X x)
    (hdb : (x == ("__debug__" : Str)) = false := by decide) (hall : (backToKw pos (keywordEach kws X.env)).all (·.1.isSome) = true := by rfl) (hks : (backToKw pos (keywordEach kws X.env)).filterMap (·.1) = ks := by rfl)
    (hpl : ((backTo pos (starEach [] X.env)).any (·.1) || (backToKw pos (keywordEach kws X.env)).any (·.1.isNone)) = false := by rfl) (hlen : ∀ s ws s1, ms s = some (.ok ws s1) → ws.length = ks.length) :
    PE X (.Call (.Name x p) [] kws pos) (fE B (mCallK ps.length perm F ms)) := by
  obtain ⟨f, fd, hm, hk, hb, Fo⟩ := C.ex
  have Fo' : FnOk X.prog X.w X.K X.mg X.base (L2.CX X.prog X.w) k f fd ps (spF B.g ps.length F) := by rw [O.p, O.w, O.k, O.m, O.b]; exact Fo
  refine ⟨fun pins s σ H Q I ⟨L, st, o, R, e, kk⟩ => ?_⟩
  have I0 := I
  refine wpAny_Call_Name_kw (ld_glob I hg (by rw [O.m]; exact hm) (PySem.W.callWith_KW0 (h₀ := X.base) I.ok.mod.kin (O.k ▸ hk) hall (thn (ha.run pos pins s σ H (fun zs H2 => zs.length = ks.length ∧ spF B.g ps.length F (perm.map fun i => zs.getD i .non) H2 Q B.E) I ?_) fun ws s2 ⟨zs, H2, I2, rz, l2, q⟩ => ⟨I2.kIn, ?_⟩) hpl) hdb)
  · have e : (FM.bind ms fun ws => run1 ps.length F (perm.map fun i => ws.getD i (.d .none))) st = some o := e
    rcases bind_some e with ⟨ws, s1, e1, e2⟩ | ⟨x, s1, e1, rfl⟩
    · refine ⟨L, st, _, R, e1, fun vs H1 L1 R1 r1 g1 => ⟨by rw [Paired.length r1]; exact hlen _ _ _ e1, run1.kr R1 (RpWs.perm r1 perm) e2 ?_⟩⟩
      cases o with
      | ok w s2 => exact fun v H2 L2 R2 r2 g2 => kk v H2 L2 R2 r2 (g1.trans g2)
      | ex x s2 => exact kk
    · exact ⟨L, st, _, R, e1, kk⟩
  · rw [hks]
    exact run_fnN (us := []) (vs := []) Fo' hr (O.k ▸ hb) (passes_call tk fun _ _ _ _ h => h) I2 .nil rz rfl l2 q
/-- how many values there are -/
theorem len_cons {m : FM W} {ms : FM (List W)} {n : Nat} (h : ∀ s ws s1, ms s = some (.ok ws s1) → ws.length = n) : ∀ s ws s1, mCons m ms s = some (.ok ws s1) → ws.length = n + 1 := fun s ws s1 e => by
  rcases bind_some e with ⟨w, s2, _, e2⟩ | ⟨x, s2, _, e2⟩
  · rcases bind_some e2 with ⟨us, s3, e3, e4⟩ | ⟨x, s3, _, e4⟩
    · cases e4
      rw [List.length_cons, h _ _ _ e3]
    · cases e4
  · cases e2
theorem len_nil : ∀ s ws s1, mNil s = some (.ok ws s1) → ws.length = 0 := fun s ws s1 e => by cases e; rfl
end FL
namespace FL
open PySem PySem.Spec PyProof.Rows L2
/-! ### a, b, .. = x, y, .. by way of a tuple; three plain names -/
def mParT (t : List W → FM Unit) (n : Nat) (ms : FM (List W)) : FM Fl := ms.bind fun ws => (fun s => if ws.length = n ∧ n ≤ 100 then ((t ws).bind fun _ => FM.pure .nx) s else none)
theorem fs_parT {X : Cx} {B : Bs} {es vs : List Expr} {k k2 n : Nat} {t : List W → FM Unit} {ms : FM (List W)} {pt pt2 pos : Pos} (hK : X.K = B.g.K) (hc : X.calm = true) (ha : PA X vs (fA B ms)) (hg : PGs X es (fGs B t)) (hn : (assignEach es X.env).length = n := by rfl) (hst : (assignEach es X.env).findIdx? (·.1) = none := by rfl)
    (hs : swapsWithSole [.Tuple es k pt] (.Tuple vs k2 pt2) pos.line X.env = pure false := by rfl) (hw : swappedStores [.Tuple es k pt] (.Tuple vs k2 pt2) X.env = pure none := by rfl) (h1 : (assignEach [.Tuple es k pt] X.env).map (·.2) = [assign (.Tuple es k pt) X.env] := by rfl) :
    PS X (.Assign [.Tuple es k pt] (.Tuple vs k2 pt2) pos) (fS B (mParT t n ms)) :=
  PS.imp (ps_asg (pe_tup ha) (pg_tup hc hg hn hst) hs hw h1) fun D σ H ⟨L, s, o, R, e, k⟩ => by
    refine fA.bind R e k.ex fun ws s1 vs H1 L1 e1 R1 r1 g1 => ?_
    split at e1
    · rename_i hl
      have lv := Paired.length r1
      refine ⟨big_line (by unfold big; omega), fun p hp => ?_⟩
      have sm := new_same (o := .tup vs) hp
      refine ⟨p, vs, rfl, hK ▸ .of upd_same, by rw [lv]; exact hl.1, ?_⟩
      rcases bind_some e1 with ⟨_, s2, e2, e3⟩ | ⟨x, s2, e2, rfl⟩
      · cases e3
        exact ⟨L1, s1, ws, _, R1.same sm, RpWs.mono R1.hr (.same sm) r1, e2, fun σ2 H2 L2 R2 g2 => k σ2 H2 L2 R2 ((g1.trans (.same sm)).trans g2)⟩
      · exact ⟨L1, s1, ws, _, R1.same sm, RpWs.mono R1.hr (.same sm) r1, e2, k⟩
    · cases e1
def mPar3 (i j l : Nat) (ms : FM (List W)) : FM Fl := ms.bind fun ws s => match ws with
  | [u, v, w] => some (.ok .nx { s with sl := ((s.sl.set i (some u)).set j (some v)).set l (some w) })
  | _ => none
theorem fs_par3 {X : Cx} {B : Bs} {i j l : Nat} {x y z : Str} {a b c : Expr} {ms : FM (List W)} {px py pz pt pos : Pos} {kt k2 pt2} (hc : X.calm = true) (hN : X.N.Nodup) (hi : X.N[i]? = some x) (hj : X.N[j]? = some y) (hl : X.N[l]? = some z) (hij : i ≠ j) (hil : i ≠ l) (hjl : j ≠ l)
    (hx : X.env.scope.names.lookup x = some .local) (hy : X.env.scope.names.lookup y = some .local) (hz : X.env.scope.names.lookup z = some .local) (ha : PA X [a, b, c] (fA B ms))
    (hw : swappedStores [.Tuple [.Name x px, .Name y py, .Name z pz] kt pt] (.Tuple [a, b, c] k2 pt2) X.env = pure (some [x, y, z]) := by rfl)
    (hs : swapsWithSole [.Tuple [.Name x px, .Name y py, .Name z pz] kt pt] (.Tuple [a, b, c] k2 pt2) pos.line X.env = pure false := by rfl) :
    PS X (.Assign [.Tuple [.Name x px, .Name y py, .Name z pz] kt pt] (.Tuple [a, b, c] k2 pt2) pos) (fS B (mPar3 i j l ms)) :=
  PS.imp (ps_par3 hc hN hi hj hl hij hil hjl hx hy hz ha hw hs) fun D σ H ⟨L, s, o, R, e, k⟩ => by
    refine fA.bind R e k.ex fun ws s1 vs H1 L1 e1 R1 r1 g1 => ?_
    match ws, r1, e1 with
    | [u, v, w], .cons h1 (.cons h2 (.cons h3 .nil)), e1 =>
      cases e1
      exact ⟨_, _, _, rfl, k _ H1 L1 (((R1.set h1).set (s := { s1 with sl := s1.sl.set i _ }) h2).set (s := { s1 with sl := (s1.sl.set i _).set j _ }) h3) g1⟩
/-! ### list(d) -/
def keysO : Option Ob → Option (List PyData)
  | some (.dct kvs) => some (kvs.map (·.1))
  | _ => none
def gListD (os : List Ob) (ws : List W) : Option W := match ws with
  | [.obj n] => (keysO os[n]?).map fun xs => .d (.list xs)
  | _ => none
def gListA (os : List Ob) (ws : List W) : Option W := match gListD os ws with
  | some r => some r
  | none => gList os ws
section
variable {X : Cx} {B : Bs}
theorem rFn.or {f f' h : List Ob → List W → Option W} (q : ∀ os w r, h os w = some r → f os w = some r ∨ f' os w = some r) {x : List V} {H : Hp} {Q : VK} : rFn B h x H Q → rFn B f x H Q ∨ rFn B f' x H Q
  | ⟨L, os, w, r, R, a, e, k⟩ => (q os w r e).imp (fun e => ⟨L, os, w, r, R, a, e, k⟩) fun e => ⟨L, os, w, r, R, a, e, k⟩
theorem listD_ok (hc : X.calm = true) : CallR X (.type "list") (rFn B gListD) := CallR.imp (call_listD hc) fun xs H Q ⟨L, os, ws, r, R, rw_, e, k⟩ => by
  match ws, rw_, e with
  | [.obj n], .cons (a := v) r1 .nil, e =>
    have e : (keysO os[n]?).map (fun xs => W.d (.list xs)) = some r := e
    obtain ⟨a, hL, rfl⟩ := r1
    cases q : os[n]? with
    | none => rw [q] at e; cases e
    | some ob =>
      rw [q] at e
      cases R.ob n a ob hL q with
      | @dK ks kvs h rk rv =>
        cases e
        refine ⟨a, ks, rfl, .inl h, fun p hp => ?_⟩
        have sm := new_same (o := .lst (ks.map fun kv => kV kv.1)) hp
        exact k _ _ sm (Rp.lst (.inl upd_same) (fun z => z.elim (R.nolive hp) (R.nopv hp)) (RpAll.mono R (.same sm) rk))
      | lst => cases e
      | dead => cases e
      | dN => cases e
      | ins => cases e
      | tab => cases e
theorem CallR.or' {f : Value} {r r' : List V → Hp → VK → Prop} (h : CallR X f r) (h' : CallR X f r') : CallR X f (fun x H Q => r x H Q ∨ r' x H Q) := fun pins s σ H xs us Q I rx q => q.elim (h pins s σ H xs us Q I rx) (h' pins s σ H xs us Q I rx)
theorem listA_ok (hK : X.K = B.g.K) (hc : X.calm = true) : CallR X (.type "list") (rFn B gListA) := CallR.imp (CallR.or' (listD_ok hc) (list_ok hK)) fun xs H Q h => rFn.or (f := gListD) (f' := gList) (fun os w r e => by
  unfold gListA at e
  split at e
  · rename_i r' hr
    cases e
    exact .inl hr
  · exact .inr e) h
end
end FL
namespace FL
open PySem PySem.Spec PyProof.Rows L2
/-! ### the law's own def -/
/-- what it promises: nothing is set apart -/
def spL (g : G) (n : Nat) (F : Fn) : Sp := fun vs H Q E => ∃ L os ws r, ws.length = n ∧ HR g (fun _ => False) L os H ∧ RpWs g (fun _ => False) L os H vs ws ∧ F ws os = some r ∧ KR g (fun _ => False) L os H Q E r
theorem spL.len {g : G} {n : Nat} {F : Fn} : ∀ vs H Q E, spL g n F vs H Q E → vs.length = n := fun vs H Q E ⟨L, os, ws, r, h, _, q, _⟩ => by rw [Paired.length q]; exact h
/-- the code object of a def -/
def codeAt (K : PySem.W.Frag) (f : Addr) : Option Value := match K.lookup f with
  | some ⟨_, _, .func fd, _⟩ => some fd.code
  | _ => none
theorem def_okL {g : G} {mg : Str → Option Value} {base : Heap} {x qual : Str} {st : Stmt} {f : Addr} {fd : FuncData} {N ps : List Str} {k : Nat} {mb : FM Fl} (F : Fun g.K x qual st f fd) (S : FnScope N ps (defScope st)) (hl : ps.length ≤ N.length)
    (hb : ∀ (cdv : Value) (A : Around) (outer : List Env) (s : Shared) (H : Hp) (E : XK) (B : Bs), B.g = g → B.E = E → B.Pv = (fun _ => False) → codeAt g.K f = some cdv → Room k (A.deeper (envOfC qual (defScope st) s.heap.objs.size f cdv)) →
      PSs (cxOf (L2.CX g.P g.w) g.P g.w g.K mg base N qual (defScope st) f cdv A outer s H E) (defBody st) (fS B mb)) :
    FnOk g.P g.w g.K mg base (L2.CX g.P g.w) (k + 1) f fd ps (spL g ps.length (runF N.length mb)) := by
  obtain ⟨oc, od, kV, doc, pm, an, cdv, ct, osl, rfl, lk, hcd⟩ := F.ex
  have hcode : codeAt g.K f = some cdv := by
    unfold codeAt
    rw [lk]
  refine fn_of lk hcd S (fun vs H Q E h => spL.len vs H Q E h) (fun A outer s H vs Q E hr h => ?_)
  obtain ⟨L, os, ws, r, hlen, hh, hv, e, k⟩ := h
  refine ⟨_, hb cdv A outer s H E ⟨g, fun _ => False, L, os, H, E⟩ rfl rfl rfl hcode hr, ?_⟩
  have R0 := start_rs (E := E) (N := N) hh hv (by omega)
  unfold runF at e
  split at e
  · rename_i s1 h1
    cases e
    exact ⟨L, _, _, R0, h1, fun σ1 H1 L1 R1 _ => fin_ok (B := ⟨g, fun _ => False, L, os, H, E⟩) hh R1 (w := .d .none) .non k⟩
  · rename_i w s1 h1
    cases e
    exact ⟨L, _, _, R0, h1, fun σ1 H1 L1 R1 _ v rv => fin_ok (B := ⟨g, fun _ => False, L, os, H, E⟩) hh R1 rv k⟩
  · rename_i x s1 h1
    cases e
    exact ⟨L, _, _, R0, h1, finX_ok (B := ⟨g, fun _ => False, L, os, H, E⟩) hh k⟩
  · cases e
/-- a lambda's body is led back to what stands around it -/
theorem takes_lam {X : Cx} {A : Around} {outer : List Env} {s : Shared} {H : Hp} {E : XK} {sc : Scope} {f c : Addr} : Takes (LamX.lamCx X A outer s H E sc f c) (fun cls d _ H => E cls d H) := takes_of rfl rfl rfl rfl
theorem On.lam {X : Cx} {g : G} {mg : Str → Option Value} {base : Heap} {A : Around} {outer : List Env} {s : Shared} {H : Hp} {E : XK} {sc : Scope} {f c : Addr} (O : On X g mg base) : On (LamX.lamCx X A outer s H E sc f c) g mg base := ⟨O.p, O.w, O.k, O.m, O.b⟩
end FL
namespace FL
open PySem PySem.Spec PyProof.Rows L2
theorem onc {X : Cx} {B : Bs} {mg : Str → Option Value} {base : Heap} {s : Shared} {H : Hp} {sc : Scope} {env : Env} {fp : List Addr} (D : Addr) (O : On X B.g mg base) : On (X.blk s H sc env fp) (B.inC D).g mg base := ⟨O.p, O.w, O.k, O.m, O.b⟩
theorem lamO {X : Cx} {B B' : Bs} {mg : Str → Option Value} {base : Heap} {A : Around} {outer : List Env} {s : Shared} {H : Hp} {E : XK} {sc : Scope} {f c : Addr} (hB : B'.g = B.g) (O : On X B.g mg base) : On (LamX.lamCx X A outer s H E sc f c) B'.g mg base := by rw [hB]; exact On.lam O
theorem lamTk {X : Cx} {B' : Bs} {A : Around} {outer : List Env} {s : Shared} {H : Hp} {E' : XK} {sc : Scope} {f c : Addr} (hE : B'.E = E') : Takes (LamX.lamCx X A outer s H E' sc f c) (fun cls d _ H => B'.E cls d H) := by rw [hE]; exact takes_lam
/-! ### an error class that inherits its __init__ -/
structure HasR (g : G) (mg : Str → Option Value) (c q : Str) (st : Stmt) (dvs : List V) : Prop where
  ex : ∃ (C fI : Addr) (fd : FuncData), mg c = some (.ref C) ∧ g.T.cls c = some C ∧ ErrOk g.K C ∧ PySem.W.findIn g.K (.ref C) "__init__" = some (some (.ref fI)) ∧ PySem.W.typeIn g.K (.ref fI) = some (.type "function") ∧ FunD g.K "__init__" q (defArgs st) (defBody st) (defScope st) dvs [] fI fd
theorem HasR.rai {g : G} {mg : Str → Option Value} {base : Heap} {c q : Str} {st : Stmt} {dvs : List V} {gI : List PyData → Option (List (Str × PyData))} {ps : List Str} {k j : Nat} (h : HasR g mg c q st dvs)
    (ho : ∀ {fI fd}, FunD g.K "__init__" q (defArgs st) (defBody st) (defScope st) dvs [] fI fd → FnOk g.P g.w g.K mg base (L2.CX g.P g.w) k fI fd ps (spI g gI fun _ => True))
    (hb : ∀ f fd, FunD g.K "__init__" q (defArgs st) (defBody st) (defScope st) dvs [] f fd → ∃ ds, Vals (dvs.drop j) ds ∧ Binds g.K fd ps ds) (hj : dvs.drop j = [] := by rfl) : Rai g mg base c k ps gI (fun _ => True) := by
  obtain ⟨C, fI, fd, h1, h2, h3, h4, h5, F⟩ := h.ex
  obtain ⟨ds, v, b⟩ := hb fI fd F
  rw [hj] at v
  cases v
  exact ⟨C, fI, fd, [], h1, h2, h3, trivial, h4, h5, b, ho F⟩
/-- ValueError.__init__(self, message); self.called = self.__class__.__name__ -/
theorem init_run {g : G} {N : List Str} {vs : List V} {H : Hp} {Q : VK} {E : XK} (h : spI g gi1 (fun _ => True) vs H Q E) :
    tSeq (tDrop (tVeI g.K (tCons (tVar 0) (tCons (tVar 1) tNil)))) (tOst g.K "called" (tVar 0) (tClsNm g.K (tVar 0))) { nx := fun _ H' => Q .non H', rt := Q } (start N vs) H := by
  obtain ⟨a, C, us, xs, Av, fl, rfl, hl, er, ho, ha, rx, hg, hq⟩ := h
  cases rx with
  | nil => cases hg
  | @cons m us x xs r1 rx =>
    cases rx with
    | cons _ _ => cases hg
    | nil =>
    cases hg
    obtain ⟨z, hz⟩ := er.nm
    refine ⟨_, rfl, _, rfl, a, C, [m], rfl, by simp, er.oe, ha, ?_⟩
    refine ⟨_, rfl, a, C, z, rfl, ha, er.rd, hz, _, rfl, a, C, rfl, er.oe, er.no, .inl ⟨ha, fun dx hd ne => ?_⟩⟩
    exact hq dx [("called", .str z)] hd ne (by simp) fun f v e => by cases e
end FL
namespace FL
open PySem PySem.Spec PyProof.Rows L2
/-! ### what is looked at behind the top -/
def ob1 (a : Option Bool) (b : Bool) : Bool := decide (a = some b)
def ov1 (a : Option (Option Value)) (b : Option Value) : Bool := decide (a = some b)
def clsB (K : PySem.W.Frag) (C : Addr) : Bool := match K.lookup C with
  | some ⟨.type T, _, .cls cd, sl⟩ => (match cd.mro, sl.toList with
    | .ref C' :: bm, [_, _, _, _, some (.builtin n), _] => decide (T = "type") && (decide (C' = C) && (decide (n = "ValueError.__new__") && (PySem.HandSPX.refsVE bm && (!cd.hasDel && cd.hasDict))))
    | _, _ => false)
  | _ => false
theorem clsB_ok {K : PySem.W.Frag} {C : Addr} (h : clsB K C = true) : ∃ nm q N bs bm sn sub ab col dd k0 k1 k2 k3 k5, K.lookup C = some (excClassObj nm q C N bs bm true sn sub ab col dd k0 k1 k2 k3 k5 "ValueError.__new__") ∧ PySem.HandSPX.refsVE bm = true := by
  unfold clsB at h
  split at h
  · rename_i T dd cd sl ho
    split at h
    · rename_i C' bm k0 k1 k2 k3 n k5 hm hs
      obtain ⟨e0, h⟩ := He.ba h
      obtain ⟨e1, h⟩ := He.ba h
      obtain ⟨e2, h⟩ := He.ba h
      obtain ⟨e3, h⟩ := He.ba h
      obtain ⟨e4, e5⟩ := He.ba h
      have e0 := of_decide_eq_true e0
      have e1 := of_decide_eq_true e1
      have e2 := of_decide_eq_true e2
      subst e0 e1 e2
      obtain ⟨nm, bs, mro, ns, qn, hd, sn, sub, ab, col, del⟩ := cd
      dsimp only at hm e4 e5
      rw [Bool.not_eq_true'] at e4
      subst hm e4 e5
      have hsl : sl = #[k0, k1, k2, k3, some (.builtin "ValueError.__new__"), k5] := by
        obtain ⟨l⟩ := sl
        simp only at hs
        rw [hs]
      subst hsl
      exact ⟨nm, qn, ns, bs, bm, sn, sub, ab, col, dd, k0, k1, k2, k3, k5, ho, e3⟩
    · cases h
  · cases h
def oexB (K : PySem.W.Frag) (C : Addr) : Bool := clsB K C && (ov1 (PySem.W.findIn K (.ref C) "__setattr__") (some (.builtin "object.__setattr__")) && (ob1 (PySem.W.subIn K (.ref C) (.type "BaseException")) true && (decide (PySem.W.typeIn K (.ref C) = some (.type "type")) && PySem.W.keepIn K (.ref C))))
theorem oexB_ok {K : PySem.W.Frag} {C : Addr} (h : oexB K C = true) : OexC K C := by
  obtain ⟨h1, h⟩ := He.ba h
  obtain ⟨h2, h⟩ := He.ba h
  obtain ⟨h3, h⟩ := He.ba h
  obtain ⟨h4, h5⟩ := He.ba h
  exact ⟨clsB_ok h1, of_decide_eq_true h2, of_decide_eq_true h3, of_decide_eq_true h4, h5⟩
def rdB (K : PySem.W.Frag) (D : Addr) : Bool := (PySem.W.clsIn K D).isSome && (ov1 (PySem.W.findIn K (.ref D) "__getattribute__") (some (.builtin "BaseException.__getattribute__")) && (ov1 (PySem.W.findIn K (.ref D) "__getattr__") none && (ob1 (PySem.W.subIn K (.ref D) (.type "BaseException")) true &&
  (ov1 (PySem.W.findIn K (.ref D) "__class__") (some (.builtin "object.__class__")) && (ov1 (PySem.W.specialIn K (.builtin "object.__class__") "__get__") (some (.builtin "getset_descriptor.__get__")) && (ob1 (PySem.W.takesIn K (.builtin "object.__class__")) true && ob1 (PySem.W.mroIn K D (.type "object")) true))))))
theorem rdB_ok {K : PySem.W.Frag} {D : Addr} (h : rdB K D = true) : XNm.ClsRd K D := by
  obtain ⟨h1, h⟩ := He.ba h
  obtain ⟨h2, h⟩ := He.ba h
  obtain ⟨h3, h⟩ := He.ba h
  obtain ⟨h4, h⟩ := He.ba h
  obtain ⟨h5, h⟩ := He.ba h
  obtain ⟨h6, h⟩ := He.ba h
  obtain ⟨h7, h8⟩ := He.ba h
  exact ⟨h1, of_decide_eq_true h2, of_decide_eq_true h3, of_decide_eq_true h4, of_decide_eq_true h5, of_decide_eq_true h6, of_decide_eq_true h7, of_decide_eq_true h8⟩
def getB (f : Option PySem.W.CFound) (D : Addr) : Bool := match f with
  | some (.get (.builtin a) (.builtin b) (.ref d) (.type t)) => decide (a = "getset_descriptor.__get__") && (decide (b = "type.__name__") && (decide (d = D) && decide (t = "type")))
  | _ => false
theorem getB_ok {f : Option PySem.W.CFound} {D : Addr} (h : getB f D = true) : f = some (.get (.builtin "getset_descriptor.__get__") (.builtin "type.__name__") (.ref D) (.type "type")) := by
  unfold getB at h
  split at h
  · obtain ⟨h1, h⟩ := He.ba h
    obtain ⟨h2, h⟩ := He.ba h
    obtain ⟨h3, h4⟩ := He.ba h
    rw [of_decide_eq_true h1, of_decide_eq_true h2, of_decide_eq_true h3, of_decide_eq_true h4]
  · cases h
def slotB (K : PySem.W.Frag) (D : Addr) : Bool := match K.lookup D with
  | some o => (match o.slots[2]? with
    | some (some (Value.str _ _)) => true
    | _ => false)
  | none => false
theorem slotB_ok {K : PySem.W.Frag} {D : Addr} (h : slotB K D = true) : ∃ z o tk, K.lookup D = some o ∧ o.slots[2]? = some (some (.str z tk)) := by
  unfold slotB at h
  split at h
  · rename_i o ho
    split at h
    · rename_i z tk hs
      exact ⟨z, o, tk, ho, hs⟩
    · cases h
  · cases h
def nmB (K : PySem.W.Frag) (D : Addr) : Bool := decide (PySem.W.typeIn K (.ref D) = some (.type "type")) && (PySem.W.readsIn K D (.type "type") && (getB (PySem.W.findCls K (.ref D) (.type "type") "__name__") D && slotB K D))
theorem nmB_ok {K : PySem.W.Frag} {D : Addr} (h : nmB K D = true) : ∃ z, XNm.NmRd K D z := by
  obtain ⟨h1, h⟩ := He.ba h
  obtain ⟨h2, h⟩ := He.ba h
  obtain ⟨h3, h4⟩ := He.ba h
  obtain ⟨z, o, tk, q1, q2⟩ := slotB_ok h4
  exact ⟨z, of_decide_eq_true h1, h2, getB_ok h3, o, tk, q1, q2⟩
def errB (K : PySem.W.Frag) (C : Addr) : Bool := oexB K C && (rdB K C && (nmB K C && ov1 (PySem.W.findIn K (.ref C) "called") none))
theorem errB_ok {K : PySem.W.Frag} {C : Addr} (h : errB K C = true) : ErrOk K C := by
  obtain ⟨h1, h⟩ := He.ba h
  obtain ⟨h2, h⟩ := He.ba h
  obtain ⟨h3, h4⟩ := He.ba h
  exact ⟨oexB_ok h1, rdB_ok h2, nmB_ok h3, of_decide_eq_true h4⟩
def veB (f : Option PySem.W.CFound) : Bool := match f with
  | some (.val (.builtin n)) => decide (n = "ValueError.__init__")
  | _ => false
theorem veB_ok {f : Option PySem.W.CFound} (h : veB f = true) : f = some (.val (.builtin "ValueError.__init__")) := by
  unfold veB at h
  split at h
  · rw [of_decide_eq_true h]
  · cases h
def iniB (K : PySem.W.Frag) (c q : Str) : Bool := ov1 (PySem.W.findIn K (.ref (He.ga K c)) "__init__") (some (.ref (He.ma K (He.ga K q) "__init__"))) && decide (PySem.W.typeIn K (.ref (He.ma K (He.ga K q) "__init__")) = some (.type "function"))
def noLst (K : PySem.W.Frag) : Bool := K.all fun p => !decide (p.2.cls = .type "list")
theorem lookup_memF {a : Addr} {o : Obj} : ∀ {K : List (Addr × Obj)}, K.lookup a = some o → (a, o) ∈ K
  | [], h => by cases h
  | (b, u) :: r, h => by
    rw [List.lookup_cons] at h
    by_cases e : a = b
    · subst e
      simp at h
      subst h
      exact List.mem_cons_self
    · rw [beq_false_of_ne e] at h
      exact List.mem_cons_of_mem _ (lookup_memF h)
theorem noLst_ok {K : PySem.W.Frag} (h : noLst K = true) {a : Addr} {o : Obj} (e : K.lookup a = some o) : o.cls ≠ .type "list" := by
  have := List.all_eq_true.mp h _ (lookup_memF e)
  simpa using this
/-! ### the look itself: also what stands in the statics -/
def kF (n : Nat) (g : Addr → Option Obj) : PySem.W.Frag := He.frT g (He.asD g n ++ [cStatics])
/-- a def's table is there and empty -/
def tabF (g : Addr → Option Obj) (K : PySem.W.Frag) (p : He.Defn) : Bool := PySem.W.codeHdIn K (He.cT K p).1 (He.cT K p).2 && match g (He.cT K p).2 with
  | none => false
  | some o => He.emptyTab o
theorem tabF_ok {n : Nat} {h : Heap} {p : He.Defn} (e : tabF h.get? (kF n h.get?) p = true) : PySem.W.codeHdIn (kF n h.get?) (He.cT (kF n h.get?) p).1 (He.cT (kF n h.get?) p).2 = true ∧ (kF n h.get?).lookup (He.cT (kF n h.get?) p).2 = none ∧ h.get? (He.cT (kF n h.get?) p).2 = some { cls := .none, data := .fields #[] } := by
  obtain ⟨e1, e2⟩ := He.ba e
  refine ⟨e1, ?_⟩
  split at e2
  · cases e2
  · rename_i o q
    exact ⟨He.frT_none q e2, by rw [q, He.emptyTab_eq e2]⟩
structure SaysF (fa : List He.Fa) (fn : List He.DefD) (tf : List He.Defn) (ex : PySem.W.Frag → Bool) (h : Heap) (K : PySem.W.Frag) : Prop where
  d : He.SaysD fa fn K
  e : ex K = true
  t : ∀ p ∈ tf, PySem.W.codeHdIn K (He.cT K p).1 (He.cT K p).2 = true ∧ K.lookup (He.cT K p).2 = none ∧ h.get? (He.cT K p).2 = some { cls := .none, data := .fields #[] }
def obF (n : Nat) (fa : List He.Fa) (fn : List He.DefD) (tf : List He.Defn) (ex : PySem.W.Frag → Bool) (g : Addr → Option Obj) : He.AlD × Bool := (He.obsD fa fn (kF n g), ex (kF n g) && tf.all (tabF g (kF n g)))
theorem saysF {n : Nat} {fa : List He.Fa} {fn : List He.DefD} {tf : List He.Defn} {ex : PySem.W.Frag → Bool} {h : Heap} (q : obF n fa fn tf ex h.get? = (He.valD fn, true)) : SaysF fa fn tf ex h (kF n h.get?) := by
  obtain ⟨q1, q2⟩ := Prod.mk.inj q
  obtain ⟨q2, q3⟩ := He.ba q2
  exact ⟨q1, q2, fun p hp => tabF_ok (List.all_eq_true.mp q3 p hp)⟩
def hkF (n : Nat) (fa : List He.Fa) (fn : List He.DefD) (tf : List He.Defn) (ex : PySem.W.Frag → Bool) : PySem.W.Hook :=
  { α := He.AlD × Bool
    obs := fun s => obF n fa fn tf ex s.heap.get?
    val := fun _ => (He.valD fn, true)
    says := fun _ h => ∃ K : PySem.W.Frag, K.In h ∧ SaysF fa fn tf ex h K
    of := fun _ _ q => ⟨_, He.frT_in, saysF q⟩
    keeps := fun _ _ _ ⟨K, hK, c⟩ k => ⟨K, PySem.W.Frag.In.keeps hK k, c.d, c.e, fun p hp => ⟨(c.t p hp).1, (c.t p hp).2.1, k _ _ (c.t p hp).2.2⟩⟩ }
theorem obF_eq {n : Nat} {fa : List He.Fa} {fn : List He.DefD} {tf : List He.Defn} {ex : PySem.W.Frag → Bool} {g : Addr → Option Obj} {s : Shared} (q : ∀ a, g a = s.heap.get? a) : obF n fa fn tf ex g = (hkF n fa fn tf ex).obs s := by
  rw [show g = s.heap.get? from funext q] <;> rfl
/-- the classes that a row has, where its lambdas stand -/
def gK (P : Program) (w : World) (K : PySem.W.Frag) (cs : List Str) (tab : Addr) : G := ⟨P, w, K, ⟨fun x => if x ∈ cs then some (He.ga K x) else none, tab⟩⟩
section
variable {P : Program} {w : World} {K : PySem.W.Frag} {cs : List Str} {tab : Addr} {h : Heap} {mg : Str → Option Value}
theorem gK_cls {c : Str} (hc : c ∈ cs) : (gK P w K cs tab).T.cls c = some (He.ga K c) := if_pos hc
theorem gK_some {c : Str} {C : Addr} (e : (gK P w K cs tab).T.cls c = some C) : C = He.ga K c := by
  have e : (if c ∈ cs then some (He.ga K c) else none) = some C := e
  split at e
  · exact (Option.some.inj e).symm
  · cases e
theorem hasF_of (X : K.In h) (G : h.Ns mainGlobals mg) {x : Str} {st : Stmt} (c : (He.Fa.glo x).ok K = true) (D : ∃ fd, FunD K x x (defArgs st) (defBody st) (defScope st) [] [] (He.ga K x) fd) : HasF (gK P w K cs tab) mg x st :=
  let ⟨fd, D⟩ := D
  ⟨_, fd, He.glo_ok X G c, He5.fun_of D⟩
theorem hasM_of {c m q : Str} {st : Stmt} (hc : c ∈ cs) (c1 : (He.Fa.cls c).ok K = true) (c2 : (He.Fa.meth c m).ok K = true) (D : ∃ fd, FunD K m q (defArgs st) (defBody st) (defScope st) [] [] (He.ma K (He.ga K c) m) fd) : HasM (gK P w K cs tab) c m q st :=
  let ⟨fd, D⟩ := D
  ⟨_, _, fd, gK_cls hc, He.cls_ok c1, He.meth_ok c2, He5.fun_of D⟩
theorem hasK_of (X : K.In h) (G : h.Ns mainGlobals mg) {c q : Str} {st : Stmt} (hc : c ∈ cs) (c0 : (He.Fa.glo c).ok K = true) (c2 : (He.Fa.mkr c).ok K = true) (D : ∃ fd, FunD K "__init__" q (defArgs st) (defBody st) (defScope st) [] [] (He.ma K (He.ga K c) "__init__") fd) : HasK (gK P w K cs tab) mg c q st :=
  let ⟨fd, D⟩ := D
  ⟨_, _, fd, He.glo_ok X G c0, gK_cls hc, He.mkr_ok c2, He5.fun_of D⟩
theorem cls_of {c f : Str} (hc : c ∈ cs) (c1 : (He.Fa.cls c).ok K = true) (c2 : (He.Fa.noat c f).ok K = true) : ClsOk (gK P w K cs tab) c f := ⟨_, gK_cls hc, He.cls_ok c1, He.noat_ok c2⟩
theorem gloI_of (X : K.In h) (G : h.Ns mainGlobals mg) {x : Str} {i : Int} (c : (He.Fa.int x i).ok K = true) : Glo (gK P w K cs tab) mg x (.int i) :=
  let ⟨t, e⟩ := He.int_ok X G c
  ⟨_, .int i, e, ⟨t, rfl⟩, fun _ _ => .int i⟩
theorem gloS_of (X : K.In h) (G : h.Ns mainGlobals mg) {x z : Str} (c : (He.Fa.str x z).ok K = true) : Glo (gK P w K cs tab) mg x (.str z) :=
  let ⟨t, e⟩ := He.str_ok X G c
  ⟨_, .str z, e, ⟨t, rfl⟩, fun _ _ => .str z⟩
/-- a constant tuple of plain things -/
def dvD : He.Dv → Option PyData
  | .non => some .none
  | .bl b => some (.bool b)
  | .int i => some (.int i)
  | .str x => some (.str x)
  | _ => none
theorem dvs_rp {g : G} {H : Hp} {A : Addr → Prop} : ∀ {vs : List He.Dv} {xs : List PyData}, vs.mapM dvD = some xs → RpAll g.P g.w g.K H A (vs.map (He.Dv.v K)) xs
  | [], xs, e => by cases e; exact .nil
  | v :: vs, xs, e => by
    rw [List.mapM_cons] at e
    cases v with
    | non => cases q : vs.mapM dvD <;> simp [dvD, q] at e; subst e; exact .cons .non (dvs_rp q)
    | bl b => cases q : vs.mapM dvD <;> simp [dvD, q] at e; subst e; exact .cons (.bl b) (dvs_rp q)
    | int i => cases q : vs.mapM dvD <;> simp [dvD, q] at e; subst e; exact .cons (.int i) (dvs_rp q)
    | str x => cases q : vs.mapM dvD <;> simp [dvD, q] at e; subst e; exact .cons (.str x) (dvs_rp q)
    | _ => simp [dvD] at e
theorem gloT_of (X : K.In h) (G : h.Ns mainGlobals mg) {x : Str} {vs : List He.Dv} {xs : List PyData} (c : (He.Fa.glo x).ok K = true) (t : He.tupB K x vs = true) (e : vs.mapM dvD = some xs) : Glo (gK P w K cs tab) mg x (.tuple xs) :=
  ⟨_, .ref (He.ga K x), He.glo_ok X G c, rfl, fun H _ => .tup (He.tupB_ok t H) (dvs_rp e)⟩
theorem hasR_of (X : K.In h) (G : h.Ns mainGlobals mg) {c q qn : Str} {st : Stmt} {dvs : List V} (hc : c ∈ cs) (c0 : (He.Fa.glo c).ok K = true) (e1 : errB K (He.ga K c) = true) (e2 : iniB K c q = true) (D : ∃ fd, FunD K "__init__" qn (defArgs st) (defBody st) (defScope st) dvs [] (He.ma K (He.ga K q) "__init__") fd) : HasR (gK P w K cs tab) mg c qn st dvs :=
  let ⟨fd, D⟩ := D
  let ⟨e3, e4⟩ := He.ba e2
  ⟨_, _, fd, He.glo_ok X G c0, gK_cls hc, errB_ok e1, of_decide_eq_true e3, of_decide_eq_true e4, D⟩
theorem kits_of (X : K.In h) (G : h.Ns mainGlobals mg) {errs : List Str} (hc : ∀ c ∈ errs, c ∈ cs) (e : (errs.all fun x => (He.Fa.glo x).ok K && (rdB K (He.ga K x) && errs.all fun y => ob1 (PySem.W.kitOne K (.ref (He.ga K x)) (.ref (He.ga K y))) (decide (x = y)))) = true) : Kits (gK P w K cs tab) mg errs := by
  have r : ∀ x ∈ errs, (He.Fa.glo x).ok K = true ∧ rdB K (He.ga K x) = true ∧ ∀ y ∈ errs, PySem.W.kitOne K (.ref (He.ga K x)) (.ref (He.ga K y)) = some (decide (x = y)) := fun x hx => by
    obtain ⟨r1, r2⟩ := He.ba (List.all_eq_true.mp e x hx)
    obtain ⟨r2, r3⟩ := He.ba r2
    exact ⟨r1, r2, fun y hy => of_decide_eq_true (List.all_eq_true.mp r3 y hy)⟩
  refine ⟨fun c hx C q => ?_, fun c hx d hy C D q1 q2 => ?_, fun c hx => ⟨_, gK_cls (hc c hx)⟩⟩
  · obtain rfl := gK_some q
    exact ⟨He.glo_ok X G (r c hx).1, rdB_ok (r c hx).2.1⟩
  · obtain rfl := gK_some q1
    obtain rfl := gK_some q2
    exact (r c hx).2.2 d hy
theorem fe_of (X : K.In h) (G : h.Ns mainGlobals mg) {errs : List Str} (c0 : (He.Fa.glo "FormError").ok K = true) (e : (errs.all fun x => decide (PySem.W.exmOne K (.ref (He.ga K x)) (.ref (He.ga K "FormError")) = some true)) = true) : ∃ CS, mg "FormError" = some (.ref CS) ∧ ErrsIn (gK P w K cs tab) CS errs :=
  ⟨_, He.glo_ok X G c0, fun c hx C q => by
    obtain rfl := gK_some q
    exact of_decide_eq_true (List.all_eq_true.mp e c hx)⟩
theorem ints_rp {g : G} {H : Hp} {A : Addr → Prop} : ∀ ns : List Int, RpAll g.P g.w g.K H A (ns.map V.int) (ns.map .int)
  | [] => .nil
  | n :: ns => .cons (.int n) (ints_rp ns)
/-! ### the law's call -/
theorem spL_start {g : G} {q : Str} {F : Fn} {H : Hp} {a : Addr} {ns : List Int} (nl : noLst g.K = true) (ht : H g.T.tab = some (.tbl #[])) (hs : SqL g.K H a (ns.map V.int)) (r : ∃ os' es, F [.d (.list (ns.map .int))] [.tab q] = some (.ok (.d (.bool true)) os' es)) :
    spL g 1 F [.ref a] H (fun v _ => v = .bl true) fun _ _ _ => False := by
  obtain ⟨os', es, r⟩ := r
  have hs : Rd H a (.lst (ns.map V.int)) := by
    rcases hs with hs | ⟨o, its, n, e1, e2, _⟩
    · exact hs
    · exact absurd e2 (noLst_ok nl e1)
  refine ⟨[g.T.tab], [.tab q], [.d (.list (ns.map .int))], _, rfl, ⟨rfl, fun i j b e1 e2 => ?_, fun n b e => ?_, fun n b o e1 e2 => ?_, fun n o e => ?_, fun b p => p.elim, fun n q' e => ?_⟩, .cons ?_ .nil, r, fun v H' L' R gr c rv => RpW.bool rv⟩
  · have : i = 0 := by have := (List.getElem?_eq_some_iff.mp e1).1; simpa using this
    have : j = 0 := by have := (List.getElem?_eq_some_iff.mp e2).1; simpa using this
    omega
  · match n, e with
    | 0, e => cases e; exact ⟨_, ht, .inr rfl⟩
    | n + 1, e => simp at e
  · match n, e1, e2 with
    | 0, e1, e2 =>
      cases e1
      cases e2
      exact .tab rfl ht True.intro fun p cv z => by
        unfold codeAmong at z
        cases z
    | n + 1, e1, e2 => simp at e1
  · match n, e with
    | 0, e => cases e; trivial
    | n + 1, e => simp at e
  · match n, e with
    | 0, e => rfl
    | n + 1, e => simp at e
  · refine Rp.lst hs (fun z => z.elim (fun ⟨n, o, e1, e2, _⟩ => ?_) id) ?_
    · match n, e1 with
      | 0, e1 =>
        cases e1
        rcases hs with hs | ⟨o, hs⟩ <;> (rw [ht] at hs; cases hs)
      | n + 1, e1 => simp at e1
    · exact ints_rp ns
theorem cx_none {w : World} {H : Hp} {s : Shared} {e : Value} {s' : Shared} (h : L2.CX P w [] H s (fun _ _ _ => False) e s') : False := by
  obtain ⟨_, _, _, _, _, _, _, _, _, _, _, _, _, _, _, _, z⟩ := h
end
end FL
namespace FL
open PySem PySem.Spec PyProof.Rows L2
/-! ### reckoning with the functions: what holds behind m, begun at s -/
def wp {α : Type} (m : FM α) (s : AS) (Q : α → AS → Prop) (X : Ex → AS → Prop) : Prop := match m s with
  | some (.ok a s1) => Q a s1
  | some (.ex e s1) => X e s1
  | none => False
def wpo {α : Type} (o : Option α) (Q : α → Prop) : Prop := match o with
  | some r => Q r
  | none => False
def post (r : Option Rs) (s : AS) (Q : W → AS → Prop) (X : Ex → AS → Prop) : Prop := match r with
  | some (.ok w os es) => Q w ⟨s.sl, os, s.es ++ es⟩
  | some (.ex e os es) => X e ⟨s.sl, os, s.es ++ es⟩
  | none => False
section
variable {α β : Type} {s : AS} {X : Ex → AS → Prop}
theorem wpo_some {r : α} {Q : α → Prop} : wpo (some r) Q = Q r := rfl
theorem wpo_none {Q : α → Prop} : wpo none Q = False := rfl
theorem post_ok {w : W} {os : List Ob} {es : List Nat} {Q : W → AS → Prop} : post (some (.ok w os es)) s Q X = Q w ⟨s.sl, os, s.es ++ es⟩ := rfl
theorem post_ex {w : Ex} {os : List Ob} {es : List Nat} {Q : W → AS → Prop} : post (some (.ex w os es)) s Q X = X w ⟨s.sl, os, s.es ++ es⟩ := rfl
theorem wp_pure {a : α} {Q : α → AS → Prop} : wp (FM.pure a) s Q X = Q a s := rfl
theorem wp_bind {m : FM α} {f : α → FM β} {Q : β → AS → Prop} : wp (m.bind f) s Q X = wp m s (fun a s1 => wp (f a) s1 Q X) X := by
  unfold wp FM.bind
  cases m s with
  | none => rfl
  | some o => cases o <;> rfl
theorem wp_bindE {m : FM α} {f : α → FM β} {Q : β → AS → Prop} {Q' : α → AS → Prop} (h : ∀ a s1, wp (f a) s1 Q X = Q' a s1) : wp (FM.bind m f) s Q X = wp m s Q' X := by
  rw [wp_bind]
  congr 1
  funext a s1
  exact h a s1
/-- a step that only the state's objects and the value decide -/
theorem wp_opt {f : AS → Option α} {Q : α → AS → Prop} : wp (fun s => match f s with | some r => some (.ok r s) | none => none) s Q X = wpo (f s) fun r => Q r s := by
  unfold wp wpo
  dsimp only
  cases f s <;> rfl
theorem wp_mono {m : FM α} {Q Q' : α → AS → Prop} {X' : Ex → AS → Prop} (h : wp m s Q X) (k : ∀ a s, Q a s → Q' a s) (kx : ∀ e s, X e s → X' e s) : wp m s Q' X' := by
  unfold wp at h ⊢
  split at h
  · exact k _ _ h
  · exact kx _ _ h
  · exact h
theorem wp_some {m : FM α} {Q : α → AS → Prop} {o : Oc α} (h : m s = some o) (k : match o with | .ok a s1 => Q a s1 | .ex e s1 => X e s1) : wp m s Q X := by
  unfold wp
  rw [h]
  cases o <;> exact k
end
section
variable {s : AS} {X : Ex → AS → Prop} {Q : W → AS → Prop}
theorem wp_var {i : Nat} : wp (mVar i) s Q X = match s.sl[i]? with | some (some w) => Q w s | _ => False := by
  unfold wp mVar
  cases s.sl[i]? with
  | none => rfl
  | some o => cases o <;> rfl
theorem wp_C {x : PyData} : wp (mC x) s Q X = Q (.d x) s := rfl
theorem wp_nil {Q : List W → AS → Prop} : wp mNil s Q X = Q [] s := rfl
theorem wp_cons {m : FM W} {ms : FM (List W)} {Q : List W → AS → Prop} : wp (mCons m ms) s Q X = wp m s (fun w s1 => wp ms s1 (fun ws s2 => Q (w :: ws) s2) X) X := by
  exact wp_bindE fun w s1 => wp_bindE fun ws s2 => rfl
theorem wp_op1 {f : List Ob → W → Option W} {m : FM W} : wp (mOp1 f m) s Q X = wp m s (fun w s1 => wpo (f s1.os w) fun r => Q r s1) X := by
  refine wp_bindE fun w s1 => ?_
  unfold wp wpo
  dsimp only
  cases f s1.os w <;> rfl
theorem wp_op2 {f : List Ob → W → W → Option W} {m m' : FM W} : wp (mOp2 f m m') s Q X = wp m s (fun w s1 => wp m' s1 (fun u s2 => wpo (f s2.os w u) fun r => Q r s2) X) X := by
  refine wp_bindE fun w s1 => wp_bindE fun u s2 => ?_
  unfold wp wpo
  dsimp only
  cases f s2.os w u <;> rfl
theorem wp_opn {f : List Ob → List W → Option W} {m : FM (List W)} : wp (mOpn f m) s Q X = wp m s (fun w s1 => wpo (f s1.os w) fun r => Q r s1) X := by
  refine wp_bindE fun w s1 => ?_
  unfold wp wpo
  dsimp only
  cases f s1.os w <;> rfl
def tupO (ws : List W) : Option W := (datas ws).bind fun xs => if xs.length ≤ big then some (.d (.tuple xs)) else none
def lstO (ws : List W) : Option W := (datas ws).bind fun xs => if xs.length ≤ big then some (.d (.list xs)) else none
theorem wp_tup {ms : FM (List W)} : wp (mTup ms) s Q X = wp ms s (fun ws s1 => wpo (tupO ws) fun r => Q r s1) X := by
  refine wp_bindE fun w s1 => ?_
  unfold wp wpo tupO
  dsimp only
  cases datas w with
  | none => rfl
  | some xs =>
    by_cases h : xs.length ≤ big
    · simp only [h, if_true, Option.bind]
    · simp only [h, if_false, Option.bind]
theorem wp_lst {ms : FM (List W)} : wp (mLst ms) s Q X = wp ms s (fun ws s1 => wpo (lstO ws) fun r => Q r s1) X := by
  refine wp_bindE fun w s1 => ?_
  unfold wp wpo lstO
  dsimp only
  cases datas w with
  | none => rfl
  | some xs =>
    by_cases h : xs.length ≤ big
    · simp only [h, if_true, Option.bind]
    · simp only [h, if_false, Option.bind]
end

section
variable {s : AS} {X : Ex → AS → Prop}
theorem wp_box {ms : FM (List W)} {Q : W → AS → Prop} : wp (mBox ms) s Q X = wp ms s (fun ws s1 => ws.length ≤ big ∧ Q (.obj s1.os.length) ⟨s1.sl, s1.os ++ [.lst ws], s1.es⟩) X := by
  refine wp_bindE fun w s1 => ?_
  unfold wp
  dsimp only
  by_cases h : w.length ≤ big
  · simp only [h, if_true, true_and]
  · simp only [h, if_false, false_and]
def boolW : W → Option Bool
  | .d (.bool b) => some b
  | _ => none
theorem wp_truth {m : FM W} {Q : Bool → AS → Prop} : wp (mTruth m) s Q X = wp m s (fun w s1 => wpo (truthW s1.os w) fun b => Q b s1) X := by
  refine wp_bindE fun w s1 => ?_
  unfold wp wpo
  dsimp only
  cases truthW s1.os w <;> rfl
theorem wp_bool {m : FM W} {Q : Bool → AS → Prop} : wp (mBool m) s Q X = wp m s (fun w s1 => wpo (boolW w) fun b => Q b s1) X := by
  refine wp_bindE fun w s1 => ?_
  unfold wp wpo boolW
  dsimp only
  cases w with
  | d x => cases x <;> rfl
  | obj n => rfl
  | exc e => rfl
theorem wp_bif {α : Type} {b : Bool} {m u : FM α} {Q : α → AS → Prop} : wp (bif b then m else u) s Q X = ((b = true → wp m s Q X) ∧ (b = false → wp u s Q X)) := by
  cases b <;> simp
theorem wp_andT {t u : FM Bool} {Q : Bool → AS → Prop} : wp (mAndT t u) s Q X = wp t s (fun b s1 => (b = true → wp u s1 Q X) ∧ (b = false → Q false s1)) X := by
  exact wp_bindE fun b s1 => wp_bif
theorem wp_orT {t u : FM Bool} {Q : Bool → AS → Prop} : wp (mOrT t u) s Q X = wp t s (fun b s1 => (b = true → Q true s1) ∧ (b = false → wp u s1 Q X)) X := by
  exact wp_bindE fun b s1 => wp_bif
theorem wp_notT {t : FM Bool} {Q : Bool → AS → Prop} : wp (mNotT t) s Q X = wp t s (fun b s1 => Q (!b) s1) X := by
  exact wp_bindE fun b s1 => rfl
theorem wp_andV {m u : FM W} {Q : W → AS → Prop} : wp (mAndV m u) s Q X = wp m s (fun w s1 => wpo (truthW s1.os w) fun b => (b = true → wp u s1 Q X) ∧ (b = false → Q w s1)) X := by
  refine wp_bindE fun w s1 => ?_
  unfold wp wpo
  dsimp only
  cases truthW s1.os w with
  | none => rfl
  | some b => cases b <;> simp
theorem wp_orV {m u : FM W} {Q : W → AS → Prop} : wp (mOrV m u) s Q X = wp m s (fun w s1 => wpo (truthW s1.os w) fun b => (b = true → Q w s1) ∧ (b = false → wp u s1 Q X)) X := by
  refine wp_bindE fun w s1 => ?_
  unfold wp wpo
  dsimp only
  cases truthW s1.os w with
  | none => rfl
  | some b => cases b <;> simp
theorem wp_notV {m : FM W} {Q : W → AS → Prop} : wp (mNotV m) s Q X = wp m s (fun w s1 => wpo (truthW s1.os w) fun b => Q (.d (.bool (!b))) s1) X := by
  refine wp_bindE fun w s1 => ?_
  unfold wp wpo
  dsimp only
  cases truthW s1.os w <;> rfl
theorem wp_ifE {c : FM Bool} {m u : FM W} {Q : W → AS → Prop} : wp (mIfE c m u) s Q X = wp c s (fun b s1 => (b = true → wp m s1 Q X) ∧ (b = false → wp u s1 Q X)) X := by
  exact wp_bindE fun b s1 => wp_bif
end
/-! ### statements -/
section
variable {s : AS} {X : Ex → AS → Prop} {Q : Fl → AS → Prop}
/-- what is left to do behind a statement -/
def nxt (u : FM Fl) (Q : Fl → AS → Prop) (X : Ex → AS → Prop) (f : Fl) (s : AS) : Prop := match f with
  | .nx => wp u s Q X
  | f => Q f s
theorem nxt_nx {u : FM Fl} : nxt u Q X .nx s = wp u s Q X := rfl
theorem nxt_rt {u : FM Fl} {w : W} : nxt u Q X (.rt w) s = Q (.rt w) s := rfl
theorem nxt_bk {u : FM Fl} : nxt u Q X .bk s = Q .bk s := rfl
theorem nxt_ct {u : FM Fl} : nxt u Q X .ct s = Q .ct s := rfl
theorem wp_seq {m u : FM Fl} : wp (mSeq m u) s Q X = wp m s (nxt u Q X) X := by
  refine wp_bindE fun f s1 => ?_
  cases f <;> rfl
theorem wp_next : wp mNext s Q X = Q .nx s := rfl
theorem wp_brk : wp mBrk s Q X = Q .bk s := rfl
theorem wp_cnt : wp mCnt s Q X = Q .ct s := rfl
theorem wp_expr {m : FM W} : wp (mExpr m) s Q X = wp m s (fun _ s1 => Q .nx s1) X := by
  exact wp_bindE fun b s1 => rfl
theorem wp_ret {m : FM W} : wp (mRet m) s Q X = wp m s (fun w s1 => Q (.rt w) s1) X := by
  exact wp_bindE fun b s1 => rfl
theorem wp_retN : wp mRetN s Q X = Q (.rt (.d .none)) s := rfl
theorem wp_if {c : FM Bool} {a b : FM Fl} : wp (mIf c a b) s Q X = wp c s (fun t s1 => (t = true → wp a s1 Q X) ∧ (t = false → wp b s1 Q X)) X := by
  exact wp_bindE fun b s1 => wp_bif
theorem wp_asg {m : FM W} {t : FG} : wp (mAsg m t) s Q X = wp m s (fun w s1 => wp (t w) s1 (fun _ s2 => Q .nx s2) X) X := by
  exact wp_bindE fun b s1 => wp_bindE fun _ s2 => rfl
theorem wp_gset {i : Nat} {w : W} {Q : Unit → AS → Prop} : wp (gSet i w) s Q X = Q () ⟨s.sl.set i (some w), s.os, s.es⟩ := rfl
theorem wp_par {i j : Nat} {ms : FM (List W)} : wp (mPar i j ms) s Q X = wp ms s (fun ws s1 => match ws with | [w, u] => Q .nx ⟨(s1.sl.set i (some w)).set j (some u), s1.os, s1.es⟩ | _ => False) X := by
  refine wp_bindE fun ws s1 => ?_
  match ws with
  | [] => rfl
  | [_] => rfl
  | [_, _] => rfl
  | _ :: _ :: _ :: _ => rfl
theorem wp_sub {st : List Ob → W → W → W → Option (List Ob × List Nat)} {mo mi : FM W} {w : W} {Q : Unit → AS → Prop} : wp (gSubF st mo mi w) s Q X = wp mo s (fun o s1 => wp mi s1 (fun i s2 => wpo (st s2.os o i w) fun p => Q () ⟨s2.sl, p.1, s2.es ++ p.2⟩) X) X := by
  refine wp_bindE fun o s1 => ?_
  refine wp_bindE fun i s2 => ?_
  unfold wp wpo
  dsimp only
  cases st s2.os o i w <;> rfl
theorem wp_setFld {c f : Str} {mv mo : FM W} : wp (mSetFld c f mv mo) s Q X = wp mv s (fun w s1 => wp mo s1 (fun o s2 => match o with | .obj n => wpo (stFldO c f w s2.os[n]?) fun fs => Q .nx ⟨s2.sl, s2.os.set n (.ins c fs), s2.es ++ esOf n w⟩ | _ => False) X) X := by
  refine wp_bindE fun w s1 => ?_
  refine wp_bindE fun o s2 => ?_
  unfold wp wpo
  cases o with
  | d x => rfl
  | exc e => rfl
  | obj n =>
    dsimp only
    cases stFldO c f w s2.os[n]? <;> rfl
end
/-! ### calls -/
section
variable {s : AS} {X : Ex → AS → Prop} {Q : W → AS → Prop}
theorem wp_run1 {n : Nat} {F : Fn} {ws : List W} : wp (run1 n F ws) s Q X = (ws.length = n ∧ post (F ws s.os) s Q X) := by
  unfold wp run1 post
  by_cases h : ws.length = n
  · simp only [h, if_true, true_and]
    cases F ws s.os with
    | none => rfl
    | some r => cases r <;> rfl
  · simp only [h, if_false, false_and]
theorem wp_call {n : Nat} {F : Fn} {ms : FM (List W)} : wp (mCall n F ms) s Q X = wp ms s (fun ws s1 => ws.length = n ∧ post (F ws s1.os) s1 Q X) X := by
  exact wp_bindE fun ws s1 => wp_run1
theorem wp_meth {c m : Str} {n : Nat} {F : Fn} {mo : FM W} {ms : FM (List W)} : wp (mMeth c m n F mo ms) s Q X = wp mo s (fun w s1 => (classOf s1.os w = some c ∧ m ∉ attrsOf s1.os w) ∧ wp ms s1 (fun ws s2 => (w :: ws).length = n ∧ post (F (w :: ws) s2.os) s2 Q X) X) X := by
  refine wp_bindE fun w s1 => ?_
  by_cases h : classOf s1.os w = some c ∧ m ∉ attrsOf s1.os w
  · rw [eq_true h, true_and]
    have e : wp (fun s => if classOf s.os w = some c ∧ m ∉ attrsOf s.os w then (ms.bind fun ws => run1 n F (w :: ws)) s else none) s1 Q X = wp (ms.bind fun ws => run1 n F (w :: ws)) s1 Q X := by
      unfold wp
      dsimp only
      rw [if_pos h]
    rw [e]
    exact wp_bindE fun ws s2 => wp_run1
  · rw [eq_false h, false_and]
    unfold wp
    dsimp only
    rw [if_neg h]
theorem wp_make {c : Str} {n : Nat} {F : Fn} {ms : FM (List W)} : wp (mMake c n F ms) s Q X = wp ms s (fun ws s1 => (W.obj s1.os.length :: ws).length = n ∧ post (F (.obj s1.os.length :: ws) (s1.os ++ [.ins c []])) ⟨s1.sl, s1.os ++ [.ins c []], s1.es⟩ (fun w s2 => w = .d .none ∧ Q (.obj s1.os.length) s2) X) X := by
  refine wp_bindE fun ws s1 => ?_
  have e := wp_run1 (n := n) (F := F) (ws := .obj s1.os.length :: ws) (s := newIns c s1) (X := X) (Q := fun w s2 => w = .d .none ∧ Q (.obj s1.os.length) s2)
  refine Eq.trans ?_ e
  unfold wp
  dsimp only
  generalize run1 n F (.obj s1.os.length :: ws) (newIns c s1) = z
  cases z with
  | none => rfl
  | some o =>
    cases o with
    | ex e s2 => rfl
    | ok w s2 =>
      cases w with
      | obj n => simp
      | exc e => simp
      | d x => cases x <;> simp
end
end FL
namespace FL
open PySem PySem.Spec PyProof.Rows L2
section
variable {s : AS} {X : Ex → AS → Prop} {Q : W → AS → Prop}
theorem wp_chain {f f' : List Ob → W → W → Option W} {a b c : FM W} : wp (mChain f f' a b c) s Q X = wp a s (fun w s1 => wp b s1 (fun u s2 => wpo (f s2.os w u) fun r => wpo (boolW r) fun t => (t = true → wp c s2 (fun z s3 => wpo (f' s3.os u z) fun r => Q r s3) X) ∧ (t = false → Q (.d (.bool false)) s2)) X) X := by
  refine wp_bindE fun w s1 => wp_bindE fun u s2 => ?_
  have e : wp (mOp2 f' (FM.pure u) c) s2 Q X = wp c s2 (fun z s3 => wpo (f' s3.os u z) fun r => Q r s3) X := by rw [wp_op2, wp_pure]
  rw [← e]
  unfold wp wpo boolW
  dsimp only
  cases f s2.os w u with
  | none => rfl
  | some r =>
    cases r with
    | obj n => rfl
    | exc e => rfl
    | d x =>
      cases x with
      | bool b => cases b <;> simp
      | _ => rfl
theorem wp_noP {Q : Option Int → AS → Prop} : wp mNoP s Q X = Q none s := rfl
def intW : W → Option Int
  | .d (.int i) => some i
  | _ => none
theorem wp_part {m : FM W} {Q : Option Int → AS → Prop} : wp (mPart m) s Q X = wp m s (fun w s1 => wpo (intW w) fun i => Q (some i) s1) X := by
  refine wp_bindE fun w s1 => ?_
  unfold wp wpo intW
  dsimp only
  cases w with
  | d x => cases x <;> rfl
  | obj n => rfl
  | exc e => rfl
theorem wp_sl {m : FM W} {lo hi : FM (Option Int)} : wp (mSl m lo hi) s Q X = wp m s (fun w s1 => wp lo s1 (fun l s2 => wp hi s2 (fun h s3 => wpo (gSl s3.os l h w) fun r => Q r s3) X) X) X := by
  refine wp_bindE fun w s1 => wp_bindE fun l s2 => wp_bindE fun h s3 => ?_
  unfold wp wpo
  dsimp only
  cases gSl s3.os l h w <;> rfl
theorem wp_rev {m : FM W} : wp (mRev m) s Q X = wp m s (fun w s1 => wpo (gRev s1.os w) fun r => Q r s1) X := wp_op1
theorem wp_ef {chk : List Ob → W → Bool} {f : List Ob → W → List W → Option (W × List Ob × List Nat)} {mo : FM W} {ms : FM (List W)} : wp (mEf chk f mo ms) s Q X = wp mo s (fun w s1 => chk s1.os w = true ∧ wp ms s1 (fun ws s2 => wpo (f s2.os w ws) fun p => Q p.1 ⟨s2.sl, p.2.1, s2.es ++ p.2.2⟩) X) X := by
  refine wp_bindE fun w s1 => ?_
  by_cases h : chk s1.os w = true
  · rw [eq_true h, true_and]
    have e : wp (fun s => if chk s.os w = true then (ms.bind fun ws s2 => match f s2.os w ws with | some (r, os', es) => some (.ok r { s2 with os := os', es := s2.es ++ es }) | none => none) s else none) s1 Q X = wp (ms.bind fun ws s2 => match f s2.os w ws with | some (r, os', es) => some (.ok r { s2 with os := os', es := s2.es ++ es }) | none => none) s1 Q X := by
      unfold wp
      dsimp only
      rw [if_pos h]
    refine Eq.trans e (wp_bindE fun ws s2 => ?_)
    unfold wp wpo
    dsimp only
    cases f s2.os w ws <;> rfl
  · rw [eq_false h, false_and]
    unfold wp
    dsimp only
    rw [if_neg h]
theorem wp_new {o : Ob} : wp (mNew o) s Q X = Q (.obj s.os.length) ⟨s.sl, s.os ++ [o], s.es⟩ := rfl
theorem wp_pairs0 {Q : List (W × W) → AS → Prop} : wp (mPairs []) s Q X = Q [] s := rfl
theorem wp_pairs1 {k v : FM W} {r : List (FM W × FM W)} {Q : List (W × W) → AS → Prop} : wp (mPairs ((k, v) :: r)) s Q X = wp k s (fun x s1 => wp v s1 (fun y s2 => wp (mPairs r) s2 (fun ps s3 => Q ((x, y) :: ps) s3) X) X) X := by
  exact wp_bindE fun x s1 => wp_bindE fun y s2 => wp_bindE fun ps s3 => rfl
theorem wp_disp {n : Bool} {ps : List (FM W × FM W)} (h : wp (mPairs ps) s (fun kvs s1 => wpo (build n kvs) fun ob => Q (.obj s1.os.length) ⟨s1.sl, s1.os ++ [ob], s1.es⟩) fun _ _ => False) : wp (mDisp n ps) s Q X := by
  unfold wp mDisp
  unfold wp wpo at h
  cases e : mPairs ps s with
  | none => rw [e] at h; exact h.elim
  | some o =>
    rw [e] at h
    cases o with
    | ex x s1 => exact h.elim
    | ok kvs s1 =>
      dsimp only at h ⊢
      cases e2 : build n kvs with
      | none => rw [e2] at h; exact h.elim
      | some ob => rw [e2] at h; exact h
/-- comprehensions: the values of the elements -/
theorem wp_comp {mi : FM (List W)} {t : Tg} {own : List Nat} {c : FM Bool} {e : FM W} : wp (mComp mi t own c e) s Q X = wp mi s (fun ws s1 => wpo (compL t c e (wipeS s1.sl own) ws s1) fun p => p.2.length ≤ big ∧ Q (.d (.list p.2)) ⟨s1.sl, p.1.os, p.1.es⟩) X := by
  refine wp_bindE fun ws s1 => ?_
  unfold wp wpo
  dsimp only
  cases compL t c e (wipeS s1.sl own) ws s1 with
  | none => rfl
  | some p =>
    obtain ⟨s2, xs⟩ := p
    dsimp only
    by_cases h : xs.length ≤ big
    · simp only [h, if_true, true_and]
    · simp only [h, if_false, false_and]
theorem wp_compB {mi : FM (List W)} {t : Tg} {own : List Nat} {c : FM Bool} {e : FM W} : wp (mCompB mi t own c e) s Q X = wp mi s (fun ws s1 => wpo (compL t c e (wipeS s1.sl own) ws s1) fun p => p.2.length ≤ big ∧ Q (.obj p.1.os.length) ⟨s1.sl, p.1.os ++ [.lst (p.2.map .d)], p.1.es⟩) X := by
  refine wp_bindE fun ws s1 => ?_
  unfold wp wpo
  dsimp only
  cases compL t c e (wipeS s1.sl own) ws s1 with
  | none => rfl
  | some p =>
    obtain ⟨s2, xs⟩ := p
    dsimp only
    by_cases h : xs.length ≤ big
    · simp only [h, if_true, true_and]
    · simp only [h, if_false, false_and]
theorem wp_yes {Q : Bool → AS → Prop} : wp mYes s Q X = Q true s := rfl
theorem compL_nil {t : Tg} {c : FM Bool} {e : FM W} {sl : List (Option W)} : compL t c e sl [] s = some (s, []) := rfl
/-- one element of a comprehension -/
def comp1 (t : Tg) (c : FM Bool) (e : FM W) (sl : List (Option W)) (w : W) (s : AS) : Option (AS × List PyData) := (tgS t w { s with sl := sl }).bind fun s1 => match c s1 with
  | some (.ok true s2) => match e s2 with
    | some (.ok (.d x) s3) => some (s3, [x])
    | _ => none
  | some (.ok false s2) => some (s2, [])
  | _ => none
theorem compL_cons {t : Tg} {c : FM Bool} {e : FM W} {sl : List (Option W)} {w : W} {ws : List W} : compL t c e sl (w :: ws) s = (comp1 t c e sl w s).bind fun p => (compL t c e sl ws p.1).map fun q => (q.1, p.2 ++ q.2) := by
  unfold comp1
  rw [compL]
  cases tgS t w { s with sl := sl } with
  | none => rfl
  | some s1 =>
    dsimp only [Option.bind]
    cases c s1 with
    | none => rfl
    | some o =>
      cases o with
      | ex x s2 => rfl
      | ok b s2 =>
        cases b with
        | false =>
          dsimp only
          cases compL t c e sl ws s2 <;> rfl
        | true =>
          dsimp only
          cases e s2 with
          | none => rfl
          | some o2 =>
            cases o2 with
            | ex x s3 => rfl
            | ok y s3 =>
              cases y with
              | d z => dsimp only; cases compL t c e sl ws s3 <;> rfl
              | obj n => rfl
              | exc x => rfl
/-- the elements, one by one, without a change of the objects -/
theorem compL_map {t : Tg} {c : FM Bool} {e : FM W} {sl : List (Option W)} {os : List Ob} {es : List Nat} {f : PyData → List PyData} : ∀ {xs : List PyData} {sl0 : List (Option W)}, (∀ x ∈ xs, ∀ sl0, ∃ sl1, comp1 t c e sl (.d x) ⟨sl0, os, es⟩ = some (⟨sl1, os, es⟩, f x)) →
    ∃ sl1, compL t c e sl (xs.map .d) ⟨sl0, os, es⟩ = some (⟨sl1, os, es⟩, xs.flatMap f)
  | [], sl0, _ => ⟨sl0, rfl⟩
  | x :: xs, sl0, h => by
    obtain ⟨sl1, e1⟩ := h x List.mem_cons_self sl0
    obtain ⟨sl2, e2⟩ := compL_map (xs := xs) (sl0 := sl1) fun y hy => h y (List.mem_cons_of_mem _ hy)
    refine ⟨sl2, ?_⟩
    rw [List.map_cons, compL_cons, e1]
    dsimp only [Option.bind]
    rw [e2]
    rfl
/-- what an element does, by wp -/
theorem comp1_of {t : Tg} {c : FM Bool} {e : FM W} {sl : List (Option W)} {w : W} {r : AS × List PyData} (h : wpo (tgS t w { s with sl := sl }) fun s1 => wp c s1 (fun b s2 => (b = true → wp e s2 (fun y s3 => ∃ x, y = .d x ∧ r = (s3, [x])) fun _ _ => False) ∧ (b = false → r = (s2, []))) fun _ _ => False) : comp1 t c e sl w s = some r := by
  unfold comp1
  unfold wpo at h
  cases q : tgS t w { s with sl := sl } with
  | none => rw [q] at h; exact h.elim
  | some s1 =>
    rw [q] at h
    dsimp only [Option.bind] at h ⊢
    unfold wp at h
    cases q1 : c s1 with
    | none => rw [q1] at h; exact h.elim
    | some o =>
      rw [q1] at h
      cases o with
      | ex x s2 => exact h.elim
      | ok b s2 =>
        obtain ⟨h1, h2⟩ := h
        cases b with
        | false => rw [h2 rfl]
        | true =>
          have h1 := h1 rfl
          dsimp only
          cases q2 : e s2 with
          | none => rw [q2] at h1; exact h1.elim
          | some o2 =>
            rw [q2] at h1
            cases o2 with
            | ex x s3 => exact h1.elim
            | ok y s3 =>
              obtain ⟨x, rfl, rfl⟩ := h1
              rfl
end
/-! ### loops -/
section
variable {s : AS} {X : Ex → AS → Prop} {Q : Fl → AS → Prop}
/-- where a turn ends -/
def turn (nx : AS → Prop) (Q : Fl → AS → Prop) (f : Fl) (s : AS) : Prop := match f with
  | .nx => nx s
  | .ct => nx s
  | .bk => Q .nx s
  | .rt w => Q (.rt w) s
theorem turn_nx {nx : AS → Prop} : turn nx Q .nx s = nx s := rfl
theorem turn_ct {nx : AS → Prop} : turn nx Q .ct s = nx s := rfl
theorem turn_bk {nx : AS → Prop} : turn nx Q .bk s = Q .nx s := rfl
theorem turn_rt {nx : AS → Prop} {w : W} : turn nx Q (.rt w) s = Q (.rt w) s := rfl
theorem wp_while1 {c : FM Bool} {b : FM Fl} (h : wp c s (fun t s1 => (t = true → wp b s1 (turn (fun s2 => wp (mWhile c b) s2 Q X) Q) X) ∧ (t = false → Q .nx s1)) X) : wp (mWhile c b) s Q X := by
  have h2 : wp (c.bind fun t => bif t then b.bind fun f => (match f with
      | .nx => mWhile c b
      | .ct => mWhile c b
      | .bk => FM.pure .nx
      | .rt w => FM.pure (.rt w)) else FM.pure .nx) s Q X := by
    rw [wp_bind]
    refine wp_mono h (fun t s1 ⟨h1, h2⟩ => ?_) fun _ _ q => q
    rw [wp_bif]
    refine ⟨fun e => ?_, fun e => h2 e⟩
    rw [wp_bind]
    refine wp_mono (h1 e) (fun f s2 q => ?_) fun _ _ q => q
    cases f <;> exact q
  cases e : (c.bind fun t => bif t then b.bind fun f => (match f with
      | .nx => mWhile c b
      | .ct => mWhile c b
      | .bk => FM.pure .nx
      | .rt w => FM.pure (.rt w)) else FM.pure .nx) s with
  | none => unfold wp at h2; rw [e] at h2; exact h2.elim
  | some o =>
    have e2 := mWhile_eq e
    unfold wp at h2 ⊢
    rw [e] at h2
    rw [e2]
    exact h2
theorem wp_while {c : FM Bool} {b : FM Fl} (I : Nat → AS → Prop) {n : Nat} (h : I n s) (k : ∀ n s, I n s → wp c s (fun t s1 => (t = true → wp b s1 (turn (fun s2 => ∃ m, m < n ∧ I m s2) Q) X) ∧ (t = false → Q .nx s1)) X) : wp (mWhile c b) s Q X := by
  induction n using Nat.strongRecOn generalizing s with
  | ind n ih =>
    refine wp_while1 (wp_mono (k n s h) (fun t s1 ⟨h1, h2⟩ => ⟨fun e => ?_, h2⟩) fun _ _ q => q)
    refine wp_mono (h1 e) (fun f s2 q => ?_) fun _ _ q => q
    cases f with
    | nx => obtain ⟨m, hm, q⟩ := q; exact ih m hm q
    | ct => obtain ⟨m, hm, q⟩ := q; exact ih m hm q
    | bk => exact q
    | rt w => exact q
theorem wp_forN {t : FG} {b : FM Fl} : wp (forL t b []) s Q X = Q .nx s := rfl
theorem wp_forC {t : FG} {b : FM Fl} {w : W} {ws : List W} : wp (forL t b (w :: ws)) s Q X = wp (t w) s (fun _ s1 => wp b s1 (turn (fun s2 => wp (forL t b ws) s2 Q X) Q) X) X := by
  refine wp_bindE fun _ s1 => wp_bindE fun f s2 => ?_
  cases f <;> rfl
theorem wp_for {mi : FM (List W)} {t : FG} {b : FM Fl} : wp (mFor mi t b) s Q X = wp mi s (fun ws s1 => wp (forL t b ws) s1 Q X) X := by
  exact wp_bindE fun ws s1 => rfl
theorem wp_forI {t : FG} {b : FM Fl} (I : List W → AS → Prop) {ws : List W} (h : I ws s) (k : ∀ w ws s, I (w :: ws) s → wp (t w) s (fun _ s1 => wp b s1 (turn (I ws) Q) X) X) (kn : ∀ s, I [] s → Q .nx s) : wp (forL t b ws) s Q X := by
  induction ws generalizing s with
  | nil => exact kn s h
  | cons w ws ih =>
    rw [wp_forC]
    refine wp_mono (k w ws s h) (fun _ s1 q => ?_) fun _ _ q => q
    refine wp_mono q (fun f s2 q => ?_) fun _ _ q => q
    cases f with
    | nx => exact ih q
    | ct => exact ih q
    | bk => exact q
    | rt w => exact q
theorem wp_it {m : FM W} {Q : List W → AS → Prop} : wp (mIt m) s Q X = wp m s (fun w s1 => wpo (seqW w) fun ws => Q ws s1) X := by
  refine wp_bindE fun w s1 => ?_
  unfold wp wpo
  dsimp only
  cases seqW w <;> rfl
theorem wp_rng {f : List W → Option (List PyData)} {ms : FM (List W)} {Q : List W → AS → Prop} : wp (mRng f ms) s Q X = wp ms s (fun ws s1 => wpo (f ws) fun xs => Q (xs.map .d) s1) X := by
  refine wp_bindE fun w s1 => ?_
  unfold wp wpo
  dsimp only
  cases f w <;> rfl
theorem wp_tupF {n : Nat} {t : List W → FM Unit} {w : W} {Q : Unit → AS → Prop} : wp (gTupF n t w) s Q X = match w with | .d (.tuple xs) => xs.length = n ∧ wp (t (xs.map .d)) s Q X | _ => False := by
  unfold wp gTupF
  cases w with
  | obj n => rfl
  | exc e => rfl
  | d x =>
    cases x with
    | tuple xs =>
      dsimp only
      by_cases h : xs.length = n
      · simp only [h, if_true, true_and]
      · simp only [h, if_false, false_and]
    | _ => rfl
theorem wp_nilF {Q : Unit → AS → Prop} : wp (gNilF []) s Q X = Q () s := rfl
theorem wp_consF {t : FG} {u : List W → FM Unit} {w : W} {r : List W} {Q : Unit → AS → Prop} : wp (gConsF t u (w :: r)) s Q X = wp (t w) s (fun _ s1 => wp (u r) s1 Q X) X := by
  show wp (FM.bind (t w) fun _ => u r) s Q X = _
  exact wp_bindE fun _ s1 => rfl
def frzW (os : List Ob) : W → Option (PyData × List Ob)
  | .obj n => (frzO os[n]?).map fun xs => (.list xs, os.set n .dead)
  | _ => none
theorem wp_frz {m : FM W} {Q : W → AS → Prop} : wp (mFrz m) s Q X = wp m s (fun w s1 => match w with | .obj n => wpo (frzO s1.os[n]?) fun xs => Q (.d (.list xs)) ⟨s1.sl, s1.os.set n .dead, s1.es⟩ | w => Q w s1) X := by
  refine wp_bindE fun w s1 => ?_
  unfold wp wpo
  cases w with
  | d x => rfl
  | exc e => rfl
  | obj n =>
    dsimp only
    cases frzO s1.os[n]? <;> rfl
end
/-! ### the whole def -/
/-- where a def ends -/
def ends (n : Nat) (r : Rs) (f : Fl) (s : AS) : Prop := match f with
  | .nx => fin n (.d .none) s = r
  | .rt w => fin n w s = r
  | _ => False
theorem run_of {N : Nat} {mb : FM Fl} {ws : List W} {os : List Ob} {r : Rs} (h : wp mb (start0 N ws os) (ends os.length r) fun e s => finX os.length e s = r) : runF N mb ws os = some r := by
  unfold runF
  unfold wp at h
  cases e : mb (start0 N ws os) with
  | none => rw [e] at h; exact h.elim
  | some o =>
    rw [e] at h
    cases o with
    | ex x s => exact congrArg some h
    | ok f s =>
      cases f with
      | nx => exact congrArg some h
      | rt w => exact congrArg some h
      | bk => exact h.elim
      | ct => exact h.elim
theorem ends_nx {n : Nat} {r : Rs} {s : AS} : ends n r .nx s = (fin n (.d .none) s = r) := rfl
theorem ends_rt {n : Nat} {r : Rs} {w : W} {s : AS} : ends n r (.rt w) s = (fin n w s = r) := rfl
theorem fin_d {n : Nat} {x : PyData} {sl : List (Option W)} {os : List Ob} {es : List Nat} : fin n (.d x) ⟨sl, os, es⟩ = if allNew n es = true then .ok (.d x) (os.take n) [] else .ok (.d x) os es := rfl
theorem fin_obj {n k : Nat} {sl : List (Option W)} {os : List Ob} {es : List Nat} : fin n (.obj k) ⟨sl, os, es⟩ = .ok (.obj k) os es := rfl
theorem fin_exc {n : Nat} {x : Ex} {sl : List (Option W)} {os : List Ob} {es : List Nat} : fin n (.exc x) ⟨sl, os, es⟩ = if allNew n es = true then .ok (.exc x) (os.take n) [] else .ok (.exc x) os es := rfl
theorem finX_e {n : Nat} {x : Ex} {sl : List (Option W)} {os : List Ob} {es : List Nat} : finX n x ⟨sl, os, es⟩ = if allNew n es = true then .ex x (os.take n) [] else .ex x os es := rfl
theorem allNew_nil {n : Nat} : allNew n [] = true := rfl
theorem allNew_cons {n i : Nat} {es : List Nat} : allNew n (i :: es) = (decide (n ≤ i) && allNew n es) := rfl
theorem start0_eq {N : Nat} {ws : List W} {os : List Ob} : start0 N ws os = ⟨ws.map some ++ List.replicate (N - ws.length) none, os, []⟩ := rfl
end FL
namespace FL
open PySem PySem.Spec PyProof.Rows L2
def top (i : Nat) : Stmt := PySem.Challenge.pw_formrules_k80_cuts_of_trees.main.body.getD i (.Pass ⟨0, 0, 0, 0⟩)
abbrev s_is_number : Stmt := top 11
abbrev s_is_below : Stmt := top 12
abbrev s_is_figure : Stmt := top 13
abbrev s_headed : Stmt := top 14
abbrev s_is_name : Stmt := top 19
abbrev s__is_made_of : Stmt := top 20
abbrev s_need_parts : Stmt := top 23
abbrev s_is_tree_over : Stmt := top 24
abbrev s_is_cut : Stmt := top 26
abbrev s_need_tree : Stmt := top 27
abbrev s__law_begun : Stmt := top 29
abbrev s__law_mixed : Stmt := top 30
abbrev s__law_take : Stmt := top 31
abbrev s__law_pick : Stmt := top 32
abbrev s__law_led : Stmt := top 33
abbrev s__law_swapped : Stmt := top 34
abbrev s__law_reserved : Stmt := top 35
abbrev s__law_paths : Stmt := top 36
abbrev s__law_odd : Stmt := top 37
abbrev s__law_bent : Stmt := top 38
abbrev s__law_is_whole : Stmt := top 39
abbrev s__law_is_name : Stmt := top 40
abbrev s__law_grafted : Stmt := top 42
abbrev s__law_is_tree : Stmt := top 43
abbrev s__law_all_within : Stmt := top 44
abbrev s__law_becomes : Stmt := top 45
abbrev s__law_is_cut : Stmt := top 46
abbrev s__law_drawn_tree : Stmt := top 47
abbrev s__law_no_parts : Stmt := top 48
abbrev s_law : Stmt := top 49
abbrev s_Forest___init__ : Stmt := inClass (top 8) 0
abbrev s_Forest_entry : Stmt := inClass (top 8) 1
abbrev s_Forest_put : Stmt := inClass (top 8) 2
abbrev s_Forest_tree : Stmt := inClass (top 8) 3
abbrev s_Forest_within : Stmt := inClass (top 8) 9
abbrev s_Forest_match : Stmt := inClass (top 8) 10
abbrev s_Forest__matched : Stmt := inClass (top 8) 11
abbrev s_Forest_is_cut : Stmt := inClass (top 8) 12
def k_YES : PyData := (.int 0)
def k_NO : PyData := (.int 1)
def k_MOST_NUMBER : PyData := (.int 7)
def k_KEPT : PyData := (.tuple [(.str "ask"), (.str "as"), (.str "be"), (.str "bind"), (.str "book"), (.str "do"), (.str "done"), (.str "each"), (.str "else"), (.str "fail"), (.str "first"), (.str "form"), (.str "get"), (.str "here"), (.str "if"), (.str "in"), (.str "into"), (.str "less"), (.str "let"), (.str "means"), (.str "next"), (.str "no"), (.str "or"), (.str "pair"), (.str "part"), (.str "plus"), (.str "put"), (.str "rest"), (.str "row"), (.str "second"), (.str "show"), (.str "then"), (.str "try"), (.str "upon"), (.str "use"), (.str "while"), (.str "with"), (.str "yes")])
def k_LETTERS : PyData := (.str "abcdefghijklmnopqrstuvwxyz")
def k_LONGEST : PyData := (.int 8)
def k_MOST_PARTS : PyData := (.int 4)
def errs : List Str := ["BadParts", "BadTree"]
abbrev s_FormError___init__ : Stmt := inClass (top 2) 0
abbrev s__law_error : Stmt := top 41
structure Txt (g : G) (mg : Str → Option Value) : Prop where
  ve : mg "ValueError" = none
  vV : PySem.W.findCls g.K (.type "ValueError") (.type "type") "__init__" = some (.val (.builtin "ValueError.__init__"))
  kits : Kits g mg errs
  r_BadParts : HasR g mg "BadParts" "FormError.__init__" s_FormError___init__ [.str ""]
  r_BadTree : HasR g mg "BadTree" "FormError.__init__" s_FormError___init__ [.str ""]
  f__law_error : HasF g mg "_law_error" s__law_error
  fe : ∃ CS, mg "FormError" = some (.ref CS) ∧ ErrsIn g CS errs
  f_is_number : HasF g mg "is_number" s_is_number
  f_is_below : HasF g mg "is_below" s_is_below
  f_is_figure : HasF g mg "is_figure" s_is_figure
  f_headed : HasF g mg "headed" s_headed
  f_is_name : HasF g mg "is_name" s_is_name
  f__is_made_of : HasF g mg "_is_made_of" s__is_made_of
  f_need_parts : HasF g mg "need_parts" s_need_parts
  f_is_tree_over : HasF g mg "is_tree_over" s_is_tree_over
  f_is_cut : HasF g mg "is_cut" s_is_cut
  f_need_tree : HasF g mg "need_tree" s_need_tree
  f__law_begun : HasF g mg "_law_begun" s__law_begun
  f__law_mixed : HasF g mg "_law_mixed" s__law_mixed
  f__law_take : HasF g mg "_law_take" s__law_take
  f__law_pick : HasF g mg "_law_pick" s__law_pick
  f__law_led : HasF g mg "_law_led" s__law_led
  f__law_swapped : HasF g mg "_law_swapped" s__law_swapped
  f__law_reserved : HasF g mg "_law_reserved" s__law_reserved
  f__law_paths : HasF g mg "_law_paths" s__law_paths
  f__law_odd : HasF g mg "_law_odd" s__law_odd
  f__law_bent : HasF g mg "_law_bent" s__law_bent
  f__law_is_whole : HasF g mg "_law_is_whole" s__law_is_whole
  f__law_is_name : HasF g mg "_law_is_name" s__law_is_name
  f__law_grafted : HasF g mg "_law_grafted" s__law_grafted
  f__law_is_tree : HasF g mg "_law_is_tree" s__law_is_tree
  f__law_all_within : HasF g mg "_law_all_within" s__law_all_within
  f__law_becomes : HasF g mg "_law_becomes" s__law_becomes
  f__law_is_cut : HasF g mg "_law_is_cut" s__law_is_cut
  f__law_drawn_tree : HasF g mg "_law_drawn_tree" s__law_drawn_tree
  f__law_no_parts : HasF g mg "_law_no_parts" s__law_no_parts
  f_law : HasF g mg "law" s_law
  m_Forest__matched : HasM g "Forest" "_matched" "Forest._matched" s_Forest__matched
  m_Forest_entry : HasM g "Forest" "entry" "Forest.entry" s_Forest_entry
  m_Forest_is_cut : HasM g "Forest" "is_cut" "Forest.is_cut" s_Forest_is_cut
  m_Forest_match : HasM g "Forest" "match" "Forest.match" s_Forest_match
  m_Forest_put : HasM g "Forest" "put" "Forest.put" s_Forest_put
  m_Forest_tree : HasM g "Forest" "tree" "Forest.tree" s_Forest_tree
  m_Forest_within : HasM g "Forest" "within" "Forest.within" s_Forest_within
  k_Forest : HasK g mg "Forest" "Forest.__init__" s_Forest___init__
  K_YES : Glo g mg "YES" k_YES
  K_NO : Glo g mg "NO" k_NO
  K_MOST_NUMBER : Glo g mg "MOST_NUMBER" k_MOST_NUMBER
  K_KEPT : Glo g mg "KEPT" k_KEPT
  K_LETTERS : Glo g mg "LETTERS" k_LETTERS
  K_LONGEST : Glo g mg "LONGEST" k_LONGEST
  K_MOST_PARTS : Glo g mg "MOST_PARTS" k_MOST_PARTS
  fld_Forest_endings : ClsOk g "Forest" "endings"
  fld_Forest_entries : ClsOk g "Forest" "entries"
  fld_Forest_known : ClsOk g "Forest" "known"
  fld_Forest_matches : ClsOk g "Forest" "matches"
section
variable {g : G} {mg : Str → Option Value} {base : Heap}
theorem sc_FormError___init__ : FnScope ["self", "message"] ["self", "message"] (defScope s_FormError___init__) := ⟨rfl, rfl, rfl, by decide +kernel, rfl, by decide +kernel, by decide +kernel⟩
theorem init_FormError (hve : mg "ValueError" = none) (vV : PySem.W.findCls g.K (.type "ValueError") (.type "type") "__init__" = some (.val (.builtin "ValueError.__init__"))) {fI : Addr} {fd : FuncData} (F : FunD g.K "__init__" "FormError.__init__" (defArgs s_FormError___init__) (defBody s_FormError___init__) (defScope s_FormError___init__) [.str ""] [] fI fd) : FnOk g.P g.w g.K mg base (L2.CX g.P g.w) 1 fI fd ["self", "message"] (spI g gi1 fun _ => True) := by
  refine F.ok sc_FormError___init__ (spI_len gi1_len) fun cdv A outer s H vs Q E hr h => ?_
  exact ⟨_, pss_cons (ps_expr (pe_veinit rfl hve vV (pa_cons (pv 0) (pa_cons (pv 1) pa_nil)))) (pss_one (ps_ost (pv 0) (pe_clsNm (pv 0)))), init_run h⟩
abbrev gi_BadParts := gi1
theorem rai_BadParts (T : Txt g mg) : Rai g mg base "BadParts" 1 ["self", "message"] gi1 (fun _ => True) := T.r_BadParts.rai (init_FormError T.ve T.vV) fun f fd F => F.binds1 (ps := ["self", "message"]) 2 1 (by decide) rfl fun T kV doc pm an cdv ct us its h1 h2 => match us, its, h1, h2 with | [_, _], [_], _, _ => ⟨_, rfl, rfl⟩
abbrev gi_BadTree := gi1
theorem rai_BadTree (T : Txt g mg) : Rai g mg base "BadTree" 1 ["self", "message"] gi1 (fun _ => True) := T.r_BadTree.rai (init_FormError T.ve T.vV) fun f fd F => F.binds1 (ps := ["self", "message"]) 2 1 (by decide) rfl fun T kV doc pm an cdv ct us its h1 h2 => match us, its, h1, h2 with | [_, _], [_], _, _ => ⟨_, rfl, rfl⟩
theorem sc__law_error : FnScope ["work", "error", "caught"] ["work"] (defScope s__law_error) := ⟨rfl, rfl, rfl, by decide +kernel, rfl, by decide +kernel, by decide +kernel⟩
open LamX in
theorem gives__law_error {X : Cx} {CS g : Addr} {cdg : Value} {q : Str} (hme : X.mg "FormError" = some (.ref CS)) : GivesTo X ["work", "error", "caught"] "_law_error" (defScope s__law_error) g cdg (defBody s__law_error) "work" q (TErr X.K CS) := by
  intro f c' s H Q tl act hc h
  refine ⟨_, pss_cons (ps_set (i := 1) sc__law_error.nd rfl (Or.inl rfl) pe_non) (pss_cons (ps_try_keep (X := (cxOf C8.CX0 X.prog X.w X.K X.mg X.base ["work", "error", "caught"] "_law_error" (defScope s__law_error) g cdg X.A X.stack s H C8.E0).nox) (i := 2) (c := .ref CS)
      (tb := fun W D σ H => ∃ Ech : XK, (∀ cls d σ' H', Ech cls d H' → W cls d σ' H') ∧ σ[0]? = some (some (.ref f)) ∧ H c' = some (CodeO c' q) ∧ tl Ech H fun _ H' => D.nx σ H')
      (ts := fun a cls d => tAsg (tVar 2) (gName 1))
      rfl rfl sc__law_error.nd rfl rfl ⟨rfl, by decide, .inl hme⟩ LamX.takes0 rfl (fun W pn xe tk _ => ?_) (fun a oe cls d pn _ _ => pss_one (ps_set (i := 1) sc__law_error.nd rfl (Or.inl rfl) (pv 2))))
    (pss_one (ps_ret (pv 1)))), ?_⟩
  · refine ⟨fun pins s' σ H' D I h' => ?_⟩
    obtain ⟨Ech, hW, h1, h2, h3⟩ := h'
    exact (pss_one (ps_expr (act W pn xe Ech _ _ tk hW))).run pins s' σ H' D I ⟨h1, h2, h3⟩
  · refine ⟨fun cls d H' => ∃ b, PySem.W.exmOne X.K cls (.ref CS) = some b ∧ (b = true → ∀ a, H' a = none → Q (.ref a) (upd H' a (ExR cls d a))) ∧ (b = false → False), fun cls d σ' H' ⟨b, e1, e2, e3⟩ hl => ⟨b, e1, fun hb a ha => ?_, fun hb => e3 hb⟩, rfl, hc, ?_⟩
    · match σ', hl with
      | [x0, x1, x2], _ => exact ⟨.ref a, rfl, .ref a, rfl, e2 hb a ha⟩
    · exact h
abbrev N_is_number : List Str := ["thing"]
theorem sc_is_number : FnScope N_is_number ["thing"] (defScope s_is_number) := ⟨rfl, rfl, rfl, by decide +kernel, rfl, by decide +kernel, by decide +kernel⟩
noncomputable def b_is_number : FM Fl :=
(mRet (mAndV (mOp1 (gIs "int") (mVar 0)) (mNotV (mOp1 (gIs "bool") (mVar 0)))))
noncomputable def F_is_number : Fn := runF 1 b_is_number
theorem d_is_number (T : Txt g mg) (NB : NoB mg) {f : Addr} {fd : FuncData} (F : Fun g.K "is_number" "is_number" s_is_number f fd) : Ok g mg base (0 + 1) f fd ["thing"] (runF 1 (b_is_number)) := by
  refine def_ok F sc_is_number (by decide) fun cdv A outer s H E B hg hE hr => ?_
  subst hg
  have hK := (rfl : B.g.K = B.g.K)
  have O := (⟨rfl, rfl, rfl, rfl, rfl⟩ : On (cxOf (L2.CX B.g.P B.g.w) B.g.P B.g.w B.g.K mg base N_is_number "is_number" (defScope s_is_number) f cdv A outer s H E) B.g mg base)
  have tk : Takes (cxOf (L2.CX B.g.P B.g.w) B.g.P B.g.w B.g.K mg base N_is_number "is_number" (defScope s_is_number) f cdv A outer s H E) (fun cls d _ H => B.E cls d H) := by subst hE; exact takes_of rfl rfl rfl rfl
  exact (fs_one (fs_ret (f_andV hK (f_is (c := "int") hK (by decide) (by rw [O.m]; exact NB.isinstance) (by rw [O.m]; exact NB.int) (by decide +kernel) (f_var (pv 0))) (f_andV1 (f_notV hK (f_is (c := "bool") hK (by decide) (by rw [O.m]; exact NB.isinstance) (by rw [O.m]; exact NB.bool) (by decide +kernel) (f_var (pv 0))))))))
theorem c_is_number (T : Txt g mg) (NB : NoB mg) : Cal g mg base "is_number" 1 ["thing"] F_is_number :=
  T.f_is_number.cal (fun f fd F => F.binds (ps := ["thing"]) fun _ _ _ _ _ _ us hl => match us, hl with | [_], _ => rfl) fun f fd F => d_is_number T NB F
abbrev N_is_below : List Str := ["thing", "most"]
theorem sc_is_below : FnScope N_is_below ["thing", "most"] (defScope s_is_below) := ⟨rfl, rfl, rfl, by decide +kernel, rfl, by decide +kernel, by decide +kernel⟩
noncomputable def b_is_below : FM Fl :=
(mRet (mAndV (mCall 1 F_is_number (mCons (mVar 0) mNil)) (mChain gLe gLt (mC (.int 0)) (mVar 0) (mVar 1))))
noncomputable def F_is_below : Fn := runF 2 b_is_below
theorem d_is_below (T : Txt g mg) (NB : NoB mg) {f : Addr} {fd : FuncData} (F : Fun g.K "is_below" "is_below" s_is_below f fd) : Ok g mg base (1 + 1) f fd ["thing", "most"] (runF 2 (b_is_below)) := by
  refine def_ok F sc_is_below (by decide) fun cdv A outer s H E B hg hE hr => ?_
  subst hg
  have hK := (rfl : B.g.K = B.g.K)
  have O := (⟨rfl, rfl, rfl, rfl, rfl⟩ : On (cxOf (L2.CX B.g.P B.g.w) B.g.P B.g.w B.g.K mg base N_is_below "is_below" (defScope s_is_below) f cdv A outer s H E) B.g mg base)
  have tk : Takes (cxOf (L2.CX B.g.P B.g.w) B.g.P B.g.w B.g.K mg base N_is_below "is_below" (defScope s_is_below) f cdv A outer s H E) (fun cls d _ H => B.E cls d H) := by subst hE; exact takes_of rfl rfl rfl rfl
  exact (fs_one (fs_ret (f_andV hK (f_call O (c_is_number T NB) (hr.mono (by omega)) tk (fa_cons (f_var (pv 0)) fa_nil) rfl) (f_andV1 (f_chain (le_ok) (lt_ok) f_int (f_var (pv 0)) (f_var (pv 1)))))))
theorem c_is_below (T : Txt g mg) (NB : NoB mg) : Cal g mg base "is_below" 2 ["thing", "most"] F_is_below :=
  T.f_is_below.cal (fun f fd F => F.binds (ps := ["thing", "most"]) fun _ _ _ _ _ _ us hl => match us, hl with | [_, _], _ => rfl) fun f fd F => d_is_below T NB F
abbrev N_is_figure : List Str := ["thing"]
theorem sc_is_figure : FnScope N_is_figure ["thing"] (defScope s_is_figure) := ⟨rfl, rfl, rfl, by decide +kernel, rfl, by decide +kernel, by decide +kernel⟩
noncomputable def b_is_figure : FM Fl :=
(mRet (mCall 2 F_is_below (mCons (mVar 0) (mCons (mOp2 gAdd (mC k_MOST_NUMBER) (mC (.int 1))) mNil))))
noncomputable def F_is_figure : Fn := runF 1 b_is_figure
theorem d_is_figure (T : Txt g mg) (NB : NoB mg) {f : Addr} {fd : FuncData} (F : Fun g.K "is_figure" "is_figure" s_is_figure f fd) : Ok g mg base (2 + 1) f fd ["thing"] (runF 1 (b_is_figure)) := by
  refine def_ok F sc_is_figure (by decide) fun cdv A outer s H E B hg hE hr => ?_
  subst hg
  have hK := (rfl : B.g.K = B.g.K)
  have O := (⟨rfl, rfl, rfl, rfl, rfl⟩ : On (cxOf (L2.CX B.g.P B.g.w) B.g.P B.g.w B.g.K mg base N_is_figure "is_figure" (defScope s_is_figure) f cdv A outer s H E) B.g mg base)
  have tk : Takes (cxOf (L2.CX B.g.P B.g.w) B.g.P B.g.w B.g.K mg base N_is_figure "is_figure" (defScope s_is_figure) f cdv A outer s H E) (fun cls d _ H => B.E cls d H) := by subst hE; exact takes_of rfl rfl rfl rfl
  exact (fs_one (fs_ret (f_call O (c_is_below T NB) (hr.mono (by omega)) tk (fa_cons (f_var (pv 0)) (fa_cons (f_bin (add_ok hK) (f_glob O T.K_MOST_NUMBER) f_int) fa_nil)) rfl)))
theorem c_is_figure (T : Txt g mg) (NB : NoB mg) : Cal g mg base "is_figure" 3 ["thing"] F_is_figure :=
  T.f_is_figure.cal (fun f fd F => F.binds (ps := ["thing"]) fun _ _ _ _ _ _ us hl => match us, hl with | [_], _ => rfl) fun f fd F => d_is_figure T NB F
abbrev N_headed : List Str := ["thing"]
theorem sc_headed : FnScope N_headed ["thing"] (defScope s_headed) := ⟨rfl, rfl, rfl, by decide +kernel, rfl, by decide +kernel, by decide +kernel⟩
noncomputable def b_headed : FM Fl :=
(mSeq (mIf (mAndT (mTruth (mOp1 (gIs "tuple") (mVar 0))) (mAndT (mTruth (mVar 0)) (mTruth (mOp1 (gIs "str") (mOp2 gIxA (mVar 0) (mC (.int 0)))))))
(mRet (mOp2 gIxA (mVar 0) (mC (.int 0))))
mNext)
(mRet (mC (.str ("" : Str)))))
noncomputable def F_headed : Fn := runF 1 b_headed
theorem d_headed (T : Txt g mg) (NB : NoB mg) {f : Addr} {fd : FuncData} (F : Fun g.K "headed" "headed" s_headed f fd) : Ok g mg base (0 + 1) f fd ["thing"] (runF 1 (b_headed)) := by
  refine def_ok F sc_headed (by decide) fun cdv A outer s H E B hg hE hr => ?_
  subst hg
  have hK := (rfl : B.g.K = B.g.K)
  have O := (⟨rfl, rfl, rfl, rfl, rfl⟩ : On (cxOf (L2.CX B.g.P B.g.w) B.g.P B.g.w B.g.K mg base N_headed "headed" (defScope s_headed) f cdv A outer s H E) B.g mg base)
  have tk : Takes (cxOf (L2.CX B.g.P B.g.w) B.g.P B.g.w B.g.K mg base N_headed "headed" (defScope s_headed) f cdv A outer s H E) (fun cls d _ H => B.E cls d H) := by subst hE; exact takes_of rfl rfl rfl rfl
  exact (fs_cons (fs_if (PW.pt (f_andW (f_truth hK (f_is (c := "tuple") hK (by decide) (by rw [O.m]; exact NB.isinstance) (by rw [O.m]; exact NB.tuple) (by decide +kernel) (f_var (pv 0)))) (f_andW (f_truth hK (f_var (pv 0))) (f_and1 (f_truth hK (f_is (c := "str") hK (by decide) (by rw [O.m]; exact NB.isinstance) (by rw [O.m]; exact NB.str) (by decide +kernel) (f_ix (ixA_ok O (hu64 hr)) (f_var (pv 0)) f_int (fun _ _ => rfl))))))))
(fs_one (fs_ret (f_ix (ixA_ok O (hu64 hr)) (f_var (pv 0)) f_int (fun _ _ => rfl))))
fs_nil)
(fs_one (fs_ret f_str)))
theorem c_headed (T : Txt g mg) (NB : NoB mg) : Cal g mg base "headed" 1 ["thing"] F_headed :=
  T.f_headed.cal (fun f fd F => F.binds (ps := ["thing"]) fun _ _ _ _ _ _ us hl => match us, hl with | [_], _ => rfl) fun f fd F => d_headed T NB F
abbrev N__is_made_of : List Str := ["thing", "characters", "one"]
theorem sc__is_made_of : FnScope N__is_made_of ["thing", "characters"] (defScope s__is_made_of) := ⟨rfl, rfl, rfl, by decide +kernel, rfl, by decide +kernel, by decide +kernel⟩
noncomputable def b__is_made_of : FM Fl :=
(mSeq (mIf (mOrT (mNotT (mTruth (mOp1 (gIs "str") (mVar 0)))) (mNotT (mBool (mChain gLe gLe (mC (.int 1)) (mOpn gLen (mCons (mVar 0) mNil)) (mC k_LONGEST)))))
(mRet (mC (.bool false)))
mNext)
(mRet (mOpn gAll (mCons (mComp (mIt (mVar 0)) (.nm 2) [2] mYes (mOp2 (gInA false) (mVar 2) (mVar 1))) mNil))))
noncomputable def F__is_made_of : Fn := runF 3 b__is_made_of
theorem d__is_made_of (T : Txt g mg) (NB : NoB mg) {f : Addr} {fd : FuncData} (F : Fun g.K "_is_made_of" "_is_made_of" s__is_made_of f fd) : Ok g mg base (0 + 1) f fd ["thing", "characters"] (runF 3 (b__is_made_of)) := by
  refine def_ok F sc__is_made_of (by decide) fun cdv A outer s H E B hg hE hr => ?_
  subst hg
  have hK := (rfl : B.g.K = B.g.K)
  have O := (⟨rfl, rfl, rfl, rfl, rfl⟩ : On (cxOf (L2.CX B.g.P B.g.w) B.g.P B.g.w B.g.K mg base N__is_made_of "_is_made_of" (defScope s__is_made_of) f cdv A outer s H E) B.g mg base)
  have tk : Takes (cxOf (L2.CX B.g.P B.g.w) B.g.P B.g.w B.g.K mg base N__is_made_of "_is_made_of" (defScope s__is_made_of) f cdv A outer s H E) (fun cls d _ H => B.E cls d H) := by subst hE; exact takes_of rfl rfl rfl rfl
  exact (fs_cons (fs_if (PW.pt (f_orW (f_tnot (f_truth hK (f_is (c := "str") hK (by decide) (by rw [O.m]; exact NB.isinstance) (by rw [O.m]; exact NB.str) (by decide +kernel) (f_var (pv 0))))) (f_or1 (f_tnot (f_tchain (le_ok) (le_ok) f_int (f_blt (len_ok hK) rfl (by rw [O.m]; exact NB.len) (by decide +kernel) (fa_cons (f_var (pv 0)) fa_nil)) (f_glob O T.K_LONGEST))))))
(fs_one (fs_ret f_bl))
fs_nil)
(fs_one (fs_ret (f_blt (all_ok hK rfl) rfl (by rw [O.m]; exact NB.all) (by decide +kernel) (fa_cons (f_lc (own := [(("one" : Str), 2)]) hK rfl sc__is_made_of.nd (fi_seq hK (f_var (pv 0))) (blkOk_by (N := N__is_made_of) (sc := defScope s__is_made_of) (by decide +kernel)) (by decide) (fun _ _ _ _ _ => pg_name (i := 2) sc__is_made_of.nd rfl (Or.inl rfl)) (fun D1 _ _ _ _ _ => fts_nil) (fun D1 _ _ _ _ _ => (f_cmp (inA_ok (onc D1 O) (hu65 hr)) (f_var (pv 2)) (f_var (pv 1)) rfl))) fa_nil)))))
theorem c__is_made_of (T : Txt g mg) (NB : NoB mg) : Cal g mg base "_is_made_of" 1 ["thing", "characters"] F__is_made_of :=
  T.f__is_made_of.cal (fun f fd F => F.binds (ps := ["thing", "characters"]) fun _ _ _ _ _ _ us hl => match us, hl with | [_, _], _ => rfl) fun f fd F => d__is_made_of T NB F
abbrev N_is_name : List Str := ["thing"]
theorem sc_is_name : FnScope N_is_name ["thing"] (defScope s_is_name) := ⟨rfl, rfl, rfl, by decide +kernel, rfl, by decide +kernel, by decide +kernel⟩
noncomputable def b_is_name : FM Fl :=
(mRet (mAndV (mCall 2 F__is_made_of (mCons (mVar 0) (mCons (mC k_LETTERS) mNil))) (mOp2 (gInA true) (mVar 0) (mC k_KEPT))))
noncomputable def F_is_name : Fn := runF 1 b_is_name
theorem d_is_name (T : Txt g mg) (NB : NoB mg) {f : Addr} {fd : FuncData} (F : Fun g.K "is_name" "is_name" s_is_name f fd) : Ok g mg base (1 + 1) f fd ["thing"] (runF 1 (b_is_name)) := by
  refine def_ok F sc_is_name (by decide) fun cdv A outer s H E B hg hE hr => ?_
  subst hg
  have hK := (rfl : B.g.K = B.g.K)
  have O := (⟨rfl, rfl, rfl, rfl, rfl⟩ : On (cxOf (L2.CX B.g.P B.g.w) B.g.P B.g.w B.g.K mg base N_is_name "is_name" (defScope s_is_name) f cdv A outer s H E) B.g mg base)
  have tk : Takes (cxOf (L2.CX B.g.P B.g.w) B.g.P B.g.w B.g.K mg base N_is_name "is_name" (defScope s_is_name) f cdv A outer s H E) (fun cls d _ H => B.E cls d H) := by subst hE; exact takes_of rfl rfl rfl rfl
  exact (fs_one (fs_ret (f_andV hK (f_call O (c__is_made_of T NB) (hr.mono (by omega)) tk (fa_cons (f_var (pv 0)) (fa_cons (f_glob O T.K_LETTERS) fa_nil)) rfl) (f_andV1 (f_cmp (notInA_ok O (hu65 hr)) (f_var (pv 0)) (f_glob O T.K_KEPT) rfl)))))
theorem c_is_name (T : Txt g mg) (NB : NoB mg) : Cal g mg base "is_name" 2 ["thing"] F_is_name :=
  T.f_is_name.cal (fun f fd F => F.binds (ps := ["thing"]) fun _ _ _ _ _ _ us hl => match us, hl with | [_], _ => rfl) fun f fd F => d_is_name T NB F
abbrev N_need_parts : List Str := ["thing"]
theorem sc_need_parts : FnScope N_need_parts ["thing"] (defScope s_need_parts) := ⟨rfl, rfl, rfl, by decide +kernel, rfl, by decide +kernel, by decide +kernel⟩
noncomputable def b_need_parts : FM Fl :=
(mIf (mNotT (mTruth (mCall 2 F_is_below (mCons (mVar 0) (mCons (mOp2 gAdd (mC k_MOST_PARTS) (mC (.int 1))) mNil)))))
(mRaise ("BadParts" : Str) gi_BadParts (mCons (mC (.str ("this is no number from 0 to 4" : Str))) mNil))
mNext)
noncomputable def F_need_parts : Fn := runF 1 b_need_parts
theorem d_need_parts (T : Txt g mg) (NB : NoB mg) {f : Addr} {fd : FuncData} (F : Fun g.K "need_parts" "need_parts" s_need_parts f fd) : Ok g mg base (2 + 1) f fd ["thing"] (runF 1 (b_need_parts)) := by
  refine def_ok F sc_need_parts (by decide) fun cdv A outer s H E B hg hE hr => ?_
  subst hg
  have hK := (rfl : B.g.K = B.g.K)
  have O := (⟨rfl, rfl, rfl, rfl, rfl⟩ : On (cxOf (L2.CX B.g.P B.g.w) B.g.P B.g.w B.g.K mg base N_need_parts "need_parts" (defScope s_need_parts) f cdv A outer s H E) B.g mg base)
  have tk : Takes (cxOf (L2.CX B.g.P B.g.w) B.g.P B.g.w B.g.K mg base N_need_parts "need_parts" (defScope s_need_parts) f cdv A outer s H E) (fun cls d _ H => B.E cls d H) := by subst hE; exact takes_of rfl rfl rfl rfl
  exact (fs_one (fs_if (f_tnot (f_truth hK (f_call O (c_is_below T NB) (hr.mono (by omega)) tk (fa_cons (f_var (pv 0)) (fa_cons (f_bin (add_ok hK) (f_glob O T.K_MOST_PARTS) f_int) fa_nil)) rfl)))
(fs_one (fs_raise O (rai_BadParts T) (hr.mono (by omega)) tk rfl (fa_cons f_str fa_nil) rfl))
fs_nil))
theorem c_need_parts (T : Txt g mg) (NB : NoB mg) : Cal g mg base "need_parts" 3 ["thing"] F_need_parts :=
  T.f_need_parts.cal (fun f fd F => F.binds (ps := ["thing"]) fun _ _ _ _ _ _ us hl => match us, hl with | [_], _ => rfl) fun f fd F => d_need_parts T NB F
abbrev N_is_tree_over : List Str := ["parts", "thing", "todo", "one", "head"]
theorem sc_is_tree_over : FnScope N_is_tree_over ["parts", "thing"] (defScope s_is_tree_over) := ⟨rfl, rfl, rfl, by decide +kernel, rfl, by decide +kernel, by decide +kernel⟩
noncomputable def b_is_tree_over : FM Fl :=
(mSeq (mAsg (mBox (mCons (mVar 1) mNil)) (gSet 2))
(mSeq (mWhile (mTruth (mVar 2))
(mSeq (mAsg (mEf isLst gPop (mVar 2) mNil) (gSet 3))
(mSeq (mAsg (mCall 1 F_headed (mCons (mVar 3) mNil)) (gSet 4))
(mIf (mAndT (mBool (mOp2 gEqA (mVar 4) (mC (.str ("does" : Str))))) (mAndT (mBool (mOp2 gEqA (mOpn gLen (mCons (mVar 3) mNil)) (mC (.int 4)))) (mTruth (mCall 2 F_is_below (mCons (mOp2 gIxA (mVar 3) (mC (.int 1))) (mCons (mVar 0) mNil))))))
(mExpr (mEf isLst gExtend (mVar 2) (mCons (mSl (mVar 3) (mPart (mC (.int 2))) mNoP) mNil)))
(mIf (mAndT (mBool (mOp2 gEqA (mVar 4) (mC (.str ("shows" : Str))))) (mAndT (mBool (mOp2 gEqA (mOpn gLen (mCons (mVar 3) mNil)) (mC (.int 3)))) (mTruth (mCall 1 F_is_figure (mCons (mOp2 gIxA (mVar 3) (mC (.int 1))) mNil)))))
(mExpr (mEf isLst gAppend (mVar 2) (mCons (mOp2 gIxA (mVar 3) (mC (.int 2))) mNil)))
(mIf (mBool (mOp2 gEqA (mVar 4) (mC (.str ("fails" : Str)))))
(mIf (mOrT (mBool (mOp2 gNe (mOpn gLen (mCons (mVar 3) mNil)) (mC (.int 2)))) (mNotT (mTruth (mCall 1 F_is_name (mCons (mOp2 gIxA (mVar 3) (mC (.int 1))) mNil)))))
(mRet (mC (.bool false)))
mNext)
(mIf (mOrT (mBool (mOp2 (gInA true) (mVar 4) (mTup (mCons (mC (.str ("yes" : Str))) (mCons (mC (.str ("no" : Str))) mNil))))) (mBool (mOp2 gNe (mOpn gLen (mCons (mVar 3) mNil)) (mC (.int 1)))))
(mRet (mC (.bool false)))
mNext)))))))
(mRet (mC (.bool true)))))
noncomputable def F_is_tree_over : Fn := runF 5 b_is_tree_over
theorem d_is_tree_over (T : Txt g mg) (NB : NoB mg) {f : Addr} {fd : FuncData} (F : Fun g.K "is_tree_over" "is_tree_over" s_is_tree_over f fd) : Ok g mg base (3 + 1) f fd ["parts", "thing"] (runF 5 (b_is_tree_over)) := by
  refine def_ok F sc_is_tree_over (by decide) fun cdv A outer s H E B hg hE hr => ?_
  subst hg
  have hK := (rfl : B.g.K = B.g.K)
  have O := (⟨rfl, rfl, rfl, rfl, rfl⟩ : On (cxOf (L2.CX B.g.P B.g.w) B.g.P B.g.w B.g.K mg base N_is_tree_over "is_tree_over" (defScope s_is_tree_over) f cdv A outer s H E) B.g mg base)
  have tk : Takes (cxOf (L2.CX B.g.P B.g.w) B.g.P B.g.w B.g.K mg base N_is_tree_over "is_tree_over" (defScope s_is_tree_over) f cdv A outer s H E) (fun cls d _ H => B.E cls d H) := by subst hE; exact takes_of rfl rfl rfl rfl
  exact (fs_cons (fs_set (i := 2) sc_is_tree_over.nd rfl (Or.inl rfl) (f_box (fa_cons (f_var (pv 1)) fa_nil)))
(fs_cons (fs_while (passes_of rfl) (f_truth hK (f_var (pv 2)))
(fs_cons (fs_set (i := 3) sc_is_tree_over.nd rfl (Or.inl rfl) (f_lm0 hK PySem.F.slot_list_pop PySem.F.type_list_pop pop_ok (f_var (pv 2))))
(fs_cons (fs_set (i := 4) sc_is_tree_over.nd rfl (Or.inl rfl) (f_call O (c_headed T NB) (hr.mono (by omega)) tk (fa_cons (f_var (pv 3)) fa_nil) rfl))
(fs_one (fs_if (PW.pt (f_andW (f_tcmp (eqA_ok hK (hu64 hr)) (f_var (pv 4)) f_str (nomark _)) (f_andW (f_tcmp (eqA_ok hK (hu64 hr)) (f_blt (len_ok hK) rfl (by rw [O.m]; exact NB.len) (by decide +kernel) (fa_cons (f_var (pv 3)) fa_nil)) f_int (nomark _)) (f_and1 (f_truth hK (f_call O (c_is_below T NB) (hr.mono (by omega)) tk (fa_cons (f_ix (ixA_ok O (hu64 hr)) (f_var (pv 3)) f_int (fun _ _ => rfl)) (fa_cons (f_var (pv 0)) fa_nil)) rfl))))))
(fs_one (fs_expr (f_lm hK PySem.F.slot_list_extend PySem.F.type_list_extend (extend_ok hK) (f_var (pv 2)) (fa_cons (f_sl hK (f_var (pv 3)) (fp_some f_int) fp_none) fa_nil))))
(fs_one (fs_if (PW.pt (f_andW (f_tcmp (eqA_ok hK (hu64 hr)) (f_var (pv 4)) f_str (nomark _)) (f_andW (f_tcmp (eqA_ok hK (hu64 hr)) (f_blt (len_ok hK) rfl (by rw [O.m]; exact NB.len) (by decide +kernel) (fa_cons (f_var (pv 3)) fa_nil)) f_int (nomark _)) (f_and1 (f_truth hK (f_call O (c_is_figure T NB) (hr.mono (by omega)) tk (fa_cons (f_ix (ixA_ok O (hu64 hr)) (f_var (pv 3)) f_int (fun _ _ => rfl)) fa_nil) rfl))))))
(fs_one (fs_expr (f_lm hK PySem.F.slot_list_append PySem.F.type_list_append append_ok (f_var (pv 2)) (fa_cons (f_ix (ixA_ok O (hu64 hr)) (f_var (pv 3)) f_int (fun _ _ => rfl)) fa_nil))))
(fs_one (fs_if (f_tcmp (eqA_ok hK (hu64 hr)) (f_var (pv 4)) f_str (nomark _))
(fs_one (fs_if (PW.pt (f_orW (f_tcmp (ne_ok hK (hu64 hr)) (f_blt (len_ok hK) rfl (by rw [O.m]; exact NB.len) (by decide +kernel) (fa_cons (f_var (pv 3)) fa_nil)) f_int (nomark _)) (f_or1 (f_tnot (f_truth hK (f_call O (c_is_name T NB) (hr.mono (by omega)) tk (fa_cons (f_ix (ixA_ok O (hu64 hr)) (f_var (pv 3)) f_int (fun _ _ => rfl)) fa_nil) rfl))))))
(fs_one (fs_ret f_bl))
fs_nil))
(fs_one (fs_if (PW.pt (f_orW (f_tcmp (notInA_ok O (hu65 hr)) (f_var (pv 4)) (f_tup (fa_cons f_str (fa_cons f_str fa_nil))) rfl) (f_or1 (f_tcmp (ne_ok hK (hu64 hr)) (f_blt (len_ok hK) rfl (by rw [O.m]; exact NB.len) (by decide +kernel) (fa_cons (f_var (pv 3)) fa_nil)) f_int (nomark _)))))
(fs_one (fs_ret f_bl))
fs_nil)))))))))))
(fs_one (fs_ret f_bl))))
theorem c_is_tree_over (T : Txt g mg) (NB : NoB mg) : Cal g mg base "is_tree_over" 4 ["parts", "thing"] F_is_tree_over :=
  T.f_is_tree_over.cal (fun f fd F => F.binds (ps := ["parts", "thing"]) fun _ _ _ _ _ _ us hl => match us, hl with | [_, _], _ => rfl) fun f fd F => d_is_tree_over T NB F
abbrev N_Forest_entry : List Str := ["self", "key"]
theorem sc_Forest_entry : FnScope N_Forest_entry ["self", "key"] (defScope s_Forest_entry) := ⟨rfl, rfl, rfl, by decide +kernel, rfl, by decide +kernel, by decide +kernel⟩
noncomputable def b_Forest_entry : FM Fl :=
(mSeq (mIf (mBool (mOp2 (gInA true) (mVar 1) (mOp1 (gFld ("Forest" : Str) ("known" : Str)) (mVar 0))))
(mSeq (mAsg (mOpn gLen (mCons (mOp1 (gFld ("Forest" : Str) ("entries" : Str)) (mVar 0)) mNil)) (gSubF stAny (mOp1 (gFld ("Forest" : Str) ("known" : Str)) (mVar 0)) (mVar 1)))
(mExpr (mEf isLst gAppend (mOp1 (gFld ("Forest" : Str) ("entries" : Str)) (mVar 0)) (mCons (mVar 1) mNil))))
mNext)
(mRet (mOp2 gIxA (mOp1 (gFld ("Forest" : Str) ("known" : Str)) (mVar 0)) (mVar 1))))
noncomputable def F_Forest_entry : Fn := runF 2 b_Forest_entry
theorem d_Forest_entry (T : Txt g mg) (NB : NoB mg) {f : Addr} {fd : FuncData} (F : Fun g.K "entry" "Forest.entry" s_Forest_entry f fd) : Ok g mg base (0 + 1) f fd ["self", "key"] (runF 2 (b_Forest_entry)) := by
  refine def_ok F sc_Forest_entry (by decide) fun cdv A outer s H E B hg hE hr => ?_
  subst hg
  have hK := (rfl : B.g.K = B.g.K)
  have O := (⟨rfl, rfl, rfl, rfl, rfl⟩ : On (cxOf (L2.CX B.g.P B.g.w) B.g.P B.g.w B.g.K mg base N_Forest_entry "Forest.entry" (defScope s_Forest_entry) f cdv A outer s H E) B.g mg base)
  have tk : Takes (cxOf (L2.CX B.g.P B.g.w) B.g.P B.g.w B.g.K mg base N_Forest_entry "Forest.entry" (defScope s_Forest_entry) f cdv A outer s H E) (fun cls d _ H => B.E cls d H) := by subst hE; exact takes_of rfl rfl rfl rfl
  exact (fs_cons (fs_if (f_tcmp (notInA_ok O (hu65 hr)) (f_var (pv 1)) (f_fld hK (T.fld_Forest_known) (f_var (pv 0))) rfl)
(fs_cons (fs_asg (f_blt (len_ok hK) rfl (by rw [O.m]; exact NB.len) (by decide +kernel) (fa_cons (f_fld hK (T.fld_Forest_entries) (f_var (pv 0))) fa_nil)) (fg_sub (f_fld hK (T.fld_Forest_known) (f_var (pv 0))) (f_var (pv 1)) (setA_ok O (hu64 hr)) (pg_sub (f_fld hK (T.fld_Forest_known) (f_var (pv 0))) (f_var (pv 1)) (setA_ok O (hu64 hr)))))
(fs_one (fs_expr (f_lm hK PySem.F.slot_list_append PySem.F.type_list_append append_ok (f_fld hK (T.fld_Forest_entries) (f_var (pv 0))) (fa_cons (f_var (pv 1)) fa_nil)))))
fs_nil)
(fs_one (fs_ret (f_ix (ixA_ok O (hu64 hr)) (f_fld hK (T.fld_Forest_known) (f_var (pv 0))) (f_var (pv 1)) (fun _ _ => rfl)))))
theorem m_Forest_entry (T : Txt g mg) (NB : NoB mg) : Met g mg base "Forest" "entry" 1 ["self", "key"] F_Forest_entry :=
  T.m_Forest_entry.met (fun f fd F => F.binds (ps := ["self", "key"]) fun _ _ _ _ _ _ us hl => match us, hl with | [_, _], _ => rfl) fun f fd F => d_Forest_entry T NB F
abbrev N_Forest_put : List Str := ["self", "tree", "yes"]
theorem sc_Forest_put : FnScope N_Forest_put ["self", "tree"] (defScope s_Forest_put) := ⟨rfl, rfl, rfl, by decide +kernel, rfl, by decide +kernel, by decide +kernel⟩
noncomputable def b_Forest_put (R_Forest_put : Fn) : FM Fl :=
(mSeq (mIf (mBool (mOp2 gEqA (mOp2 gIxA (mVar 1) (mC (.int 0))) (mC (.str ("does" : Str)))))
(mSeq (mAsg (mMeth ("Forest" : Str) ("put" : Str) 2 R_Forest_put (mVar 0) (mCons (mOp2 gIxA (mVar 1) (mC (.int 2))) mNil)) (gSet 2))
(mRet (mMeth ("Forest" : Str) ("entry" : Str) 2 F_Forest_entry (mVar 0) (mCons (mTup (mCons (mC (.str ("does" : Str))) (mCons (mOp2 gIxA (mVar 1) (mC (.int 1))) (mCons (mVar 2) (mCons (mMeth ("Forest" : Str) ("put" : Str) 2 R_Forest_put (mVar 0) (mCons (mOp2 gIxA (mVar 1) (mC (.int 3))) mNil)) mNil))))) mNil))))
mNext)
(mSeq (mIf (mBool (mOp2 gEqA (mOp2 gIxA (mVar 1) (mC (.int 0))) (mC (.str ("shows" : Str)))))
(mRet (mMeth ("Forest" : Str) ("entry" : Str) 2 F_Forest_entry (mVar 0) (mCons (mTup (mCons (mC (.str ("shows" : Str))) (mCons (mOp2 gIxA (mVar 1) (mC (.int 1))) (mCons (mMeth ("Forest" : Str) ("put" : Str) 2 R_Forest_put (mVar 0) (mCons (mOp2 gIxA (mVar 1) (mC (.int 2))) mNil)) mNil)))) mNil)))
mNext)
(mRet (mMeth ("Forest" : Str) ("entry" : Str) 2 F_Forest_entry (mVar 0) (mCons (mVar 1) mNil)))))
noncomputable def F_Forest_put : Nat → Fn
  | 0 => noFn
  | n + 1 => runF 3 (b_Forest_put (F_Forest_put n))
theorem d_Forest_put (T : Txt g mg) (NB : NoB mg) {R_Forest_put : Fn} {k : Nat} (hk : 1 ≤ k) (hm_Forest_put : Met g mg base "Forest" "put" k ["self", "tree"] R_Forest_put) {f : Addr} {fd : FuncData} (F : Fun g.K "put" "Forest.put" s_Forest_put f fd) : Ok g mg base (k + 1) f fd ["self", "tree"] (runF 3 (b_Forest_put R_Forest_put)) := by
  refine def_ok F sc_Forest_put (by decide) fun cdv A outer s H E B hg hE hr => ?_
  subst hg
  have hK := (rfl : B.g.K = B.g.K)
  have O := (⟨rfl, rfl, rfl, rfl, rfl⟩ : On (cxOf (L2.CX B.g.P B.g.w) B.g.P B.g.w B.g.K mg base N_Forest_put "Forest.put" (defScope s_Forest_put) f cdv A outer s H E) B.g mg base)
  have tk : Takes (cxOf (L2.CX B.g.P B.g.w) B.g.P B.g.w B.g.K mg base N_Forest_put "Forest.put" (defScope s_Forest_put) f cdv A outer s H E) (fun cls d _ H => B.E cls d H) := by subst hE; exact takes_of rfl rfl rfl rfl
  exact (fs_cons (fs_if (f_tcmp (eqA_ok hK (hu64 hr)) (f_ix (ixA_ok O (hu64 hr)) (f_var (pv 1)) f_int (fun _ _ => rfl)) f_str (nomark _))
(fs_cons (fs_set (i := 2) sc_Forest_put.nd rfl (Or.inl rfl) (f_meth O hm_Forest_put (hr.mono (by omega)) tk (f_var (pv 0)) (fa_cons (f_ix (ixA_ok O (hu64 hr)) (f_var (pv 1)) f_int (fun _ _ => rfl)) fa_nil)))
(fs_one (fs_ret (f_meth O (m_Forest_entry T NB) (hr.mono (by omega)) tk (f_var (pv 0)) (fa_cons (f_tup (fa_cons f_str (fa_cons (f_ix (ixA_ok O (hu64 hr)) (f_var (pv 1)) f_int (fun _ _ => rfl)) (fa_cons (f_var (pv 2)) (fa_cons (f_meth O hm_Forest_put (hr.mono (by omega)) tk (f_var (pv 0)) (fa_cons (f_ix (ixA_ok O (hu64 hr)) (f_var (pv 1)) f_int (fun _ _ => rfl)) fa_nil)) fa_nil))))) fa_nil)))))
fs_nil)
(fs_cons (fs_if (f_tcmp (eqA_ok hK (hu64 hr)) (f_ix (ixA_ok O (hu64 hr)) (f_var (pv 1)) f_int (fun _ _ => rfl)) f_str (nomark _))
(fs_one (fs_ret (f_meth O (m_Forest_entry T NB) (hr.mono (by omega)) tk (f_var (pv 0)) (fa_cons (f_tup (fa_cons f_str (fa_cons (f_ix (ixA_ok O (hu64 hr)) (f_var (pv 1)) f_int (fun _ _ => rfl)) (fa_cons (f_meth O hm_Forest_put (hr.mono (by omega)) tk (f_var (pv 0)) (fa_cons (f_ix (ixA_ok O (hu64 hr)) (f_var (pv 1)) f_int (fun _ _ => rfl)) fa_nil)) fa_nil)))) fa_nil))))
fs_nil)
(fs_one (fs_ret (f_meth O (m_Forest_entry T NB) (hr.mono (by omega)) tk (f_var (pv 0)) (fa_cons (f_var (pv 1)) fa_nil))))))
theorem rec_Forest_put (T : Txt g mg) (NB : NoB mg) : ∀ n : Nat, (Met g mg base "Forest" "put" (1 + 1 * n) ["self", "tree"] (F_Forest_put n))
  | 0 => T.m_Forest_put.met (fun f fd F => F.binds (ps := ["self", "tree"]) fun _ _ _ _ _ _ us hl => match us, hl with | [_, _], _ => rfl) fun f fd F => no_ok (k := 0) F sc_Forest_put
  | n + 1 => by
    have hm_Forest_put := rec_Forest_put T NB n
    exact T.m_Forest_put.met (fun f fd F => F.binds (ps := ["self", "tree"]) fun _ _ _ _ _ _ us hl => match us, hl with | [_, _], _ => rfl) fun f fd F => d_Forest_put T NB (k := 1 + 1 * n) (by omega) hm_Forest_put F
theorem m_Forest_put (T : Txt g mg) (NB : NoB mg) (n : Nat) : Met g mg base "Forest" "put" (1 + 1 * n) ["self", "tree"] (F_Forest_put n) := (rec_Forest_put T NB n)
abbrev N_Forest_within : List Str := ["self", "number", "found", "todo", "at", "entry"]
theorem sc_Forest_within : FnScope N_Forest_within ["self", "number"] (defScope s_Forest_within) := ⟨rfl, rfl, rfl, by decide +kernel, rfl, by decide +kernel, by decide +kernel⟩
noncomputable def b_Forest_within : FM Fl :=
(mSeq (mAsg (mNew (.dct [])) (gSet 2))
(mSeq (mAsg (mBox (mCons (mVar 1) mNil)) (gSet 3))
(mSeq (mWhile (mTruth (mVar 3))
(mSeq (mAsg (mEf isLst gPop (mVar 3) mNil) (gSet 4))
(mIf (mBool (mOp2 (gInA true) (mVar 4) (mVar 2)))
(mSeq (mAsg (mC (.bool true)) (gSubF stAny (mVar 2) (mVar 4)))
(mSeq (mAsg (mOp2 gIxA (mOp1 (gFld ("Forest" : Str) ("entries" : Str)) (mVar 0)) (mVar 4)) (gSet 5))
(mExpr (mEf isLst gExtend (mVar 3) (mCons (mIfE (mBool (mOp2 (gInA false) (mOp2 gIxA (mVar 5) (mC (.int 0))) (mTup (mCons (mC (.str ("does" : Str))) (mCons (mC (.str ("shows" : Str))) mNil))))) (mOpn gListA (mCons (mSl (mVar 5) (mPart (mC (.int 2))) mNoP) mNil)) (mLst mNil)) mNil)))))
mNext)))
(mRet (mOpn gListA (mCons (mVar 2) mNil))))))
noncomputable def F_Forest_within : Fn := runF 6 b_Forest_within
theorem d_Forest_within (T : Txt g mg) (NB : NoB mg) {f : Addr} {fd : FuncData} (F : Fun g.K "within" "Forest.within" s_Forest_within f fd) : Ok g mg base (0 + 1) f fd ["self", "number"] (runF 6 (b_Forest_within)) := by
  refine def_ok F sc_Forest_within (by decide) fun cdv A outer s H E B hg hE hr => ?_
  subst hg
  have hK := (rfl : B.g.K = B.g.K)
  have O := (⟨rfl, rfl, rfl, rfl, rfl⟩ : On (cxOf (L2.CX B.g.P B.g.w) B.g.P B.g.w B.g.K mg base N_Forest_within "Forest.within" (defScope s_Forest_within) f cdv A outer s H E) B.g mg base)
  have tk : Takes (cxOf (L2.CX B.g.P B.g.w) B.g.P B.g.w B.g.K mg base N_Forest_within "Forest.within" (defScope s_Forest_within) f cdv A outer s H E) (fun cls d _ H => B.E cls d H) := by subst hE; exact takes_of rfl rfl rfl rfl
  exact (fs_cons (fs_set (i := 2) sc_Forest_within.nd rfl (Or.inl rfl) f_dict0K)
(fs_cons (fs_set (i := 3) sc_Forest_within.nd rfl (Or.inl rfl) (f_box (fa_cons (f_var (pv 1)) fa_nil)))
(fs_cons (fs_while (passes_of rfl) (f_truth hK (f_var (pv 3)))
(fs_cons (fs_set (i := 4) sc_Forest_within.nd rfl (Or.inl rfl) (f_lm0 hK PySem.F.slot_list_pop PySem.F.type_list_pop pop_ok (f_var (pv 3))))
(fs_one (fs_if (f_tcmp (notInA_ok O (hu65 hr)) (f_var (pv 4)) (f_var (pv 2)) rfl)
(fs_cons (fs_asg f_bl (fg_sub (f_var (pv 2)) (f_var (pv 4)) (setA_ok O (hu64 hr)) (pg_sub (f_var (pv 2)) (f_var (pv 4)) (setA_ok O (hu64 hr)))))
(fs_cons (fs_set (i := 5) sc_Forest_within.nd rfl (Or.inl rfl) (f_ix (ixA_ok O (hu64 hr)) (f_fld hK (T.fld_Forest_entries) (f_var (pv 0))) (f_var (pv 4)) (fun _ _ => rfl)))
(fs_one (fs_expr (f_lm hK PySem.F.slot_list_extend PySem.F.type_list_extend (extend_ok hK) (f_var (pv 3)) (fa_cons (f_ifE (f_tcmp (inA_ok O (hu65 hr)) (f_ix (ixA_ok O (hu64 hr)) (f_var (pv 5)) f_int (fun _ _ => rfl)) (f_tup (fa_cons f_str (fa_cons f_str fa_nil))) rfl) (f_typ (T := "list") (listA_ok hK rfl) rfl (by rw [O.m]; exact NB.list) (by decide +kernel) (fa_cons (f_sl hK (f_var (pv 5)) (fp_some f_int) fp_none) fa_nil)) (f_lst fa_nil)) fa_nil))))))
fs_nil))))
(fs_one (fs_ret (f_typ (T := "list") (listA_ok hK rfl) rfl (by rw [O.m]; exact NB.list) (by decide +kernel) (fa_cons (f_var (pv 2)) fa_nil)))))))
theorem m_Forest_within (T : Txt g mg) (NB : NoB mg) : Met g mg base "Forest" "within" 1 ["self", "number"] F_Forest_within :=
  T.m_Forest_within.met (fun f fd F => F.binds (ps := ["self", "number"]) fun _ _ _ _ _ _ us hl => match us, hl with | [_, _], _ => rfl) fun f fd F => d_Forest_within T NB F
abbrev N_Forest_match : List Str := ["self", "cut", "tree", "key"]
theorem sc_Forest_match : FnScope N_Forest_match ["self", "cut", "tree"] (defScope s_Forest_match) := ⟨rfl, rfl, rfl, by decide +kernel, rfl, by decide +kernel, by decide +kernel⟩
noncomputable def b_Forest_match (R_Forest_match R_Forest__matched : Fn) : FM Fl :=
(mSeq (mAsg (mTup (mCons (mVar 1) (mCons (mVar 2) mNil))) (gSet 3))
(mSeq (mIf (mBool (mOp2 (gInA true) (mVar 3) (mOp1 (gFld ("Forest" : Str) ("matches" : Str)) (mVar 0))))
(mAsg (mMeth ("Forest" : Str) ("_matched" : Str) 3 R_Forest__matched (mVar 0) (mCons (mVar 1) (mCons (mVar 2) mNil))) (gSubF stAny (mOp1 (gFld ("Forest" : Str) ("matches" : Str)) (mVar 0)) (mVar 3)))
mNext)
(mRet (mOp2 gIxA (mOp1 (gFld ("Forest" : Str) ("matches" : Str)) (mVar 0)) (mVar 3)))))
abbrev N_Forest__matched : List Str := ["self", "cut", "tree", "mine", "its", "yes", "no", "one", "other", "inner", "at"]
theorem sc_Forest__matched : FnScope N_Forest__matched ["self", "cut", "tree"] (defScope s_Forest__matched) := ⟨rfl, rfl, rfl, by decide +kernel, rfl, by decide +kernel, by decide +kernel⟩
noncomputable def b_Forest__matched (R_Forest_match R_Forest__matched : Fn) : FM Fl :=
(mSeq (mIf (mBool (mOp2 (gInA false) (mVar 1) (mTup (mCons (mC k_YES) (mCons (mC k_NO) mNil)))))
(mRet (mIfE (mBool (mOp2 gEqA (mVar 1) (mC k_YES))) (mTup (mCons (mLst (mCons (mVar 2) mNil)) (mCons (mLst mNil) mNil))) (mTup (mCons (mLst mNil) (mCons (mLst (mCons (mVar 2) mNil)) mNil)))))
mNext)
(mSeq (mPar 3 4 (mCons (mOp2 gIxA (mOp1 (gFld ("Forest" : Str) ("entries" : Str)) (mVar 0)) (mVar 1)) (mCons (mOp2 gIxA (mOp1 (gFld ("Forest" : Str) ("entries" : Str)) (mVar 0)) (mVar 2)) mNil)))
(mSeq (mIf (mBool (mOp2 (gInA true) (mOp2 gIxA (mVar 3) (mC (.int 0))) (mTup (mCons (mC (.str ("does" : Str))) (mCons (mC (.str ("shows" : Str))) mNil)))))
(mRet (mIfE (mBool (mOp2 gEqA (mVar 1) (mVar 2))) (mTup (mCons (mLst mNil) (mCons (mLst mNil) mNil))) (mC .none)))
mNext)
(mSeq (mIf (mBool (mOp2 gNe (mSl (mVar 3) mNoP (mPart (mC (.int 2)))) (mSl (mVar 4) mNoP (mPart (mC (.int 2))))))
(mRet (mC .none))
mNext)
(mSeq (mParT (gConsF (gSet 5) (gConsF (gSet 6) gNilF)) 2 (mCons (mBox mNil) (mCons (mBox mNil) mNil)))
(mSeq (mFor (mRng zipF (mCons (mSl (mVar 3) (mPart (mC (.int 2))) mNoP) (mCons (mSl (mVar 4) (mPart (mC (.int 2))) mNoP) mNil))) (gTupF 2 (gConsF (gSet 7) (gConsF (gSet 8) gNilF)))
(mSeq (mAsg (mMeth ("Forest" : Str) ("match" : Str) 3 R_Forest_match (mVar 0) (mCons (mVar 7) (mCons (mVar 8) mNil))) (gSet 9))
(mSeq (mIf (mBool (mOp2 (gIsN false) (mVar 9) (mC .none)))
(mRet (mC .none))
mNext)
(mSeq (mExpr (mEf isLst gExtend (mVar 5) (mCons (mComp (mIt (mOp2 gIxA (mVar 9) (mC (.int 0)))) (.nm 10) [10] (mBool (mOp2 (gInA true) (mVar 10) (mVar 5))) (mVar 10)) mNil)))
(mExpr (mEf isLst gExtend (mVar 6) (mCons (mComp (mIt (mOp2 gIxA (mVar 9) (mC (.int 1)))) (.nm 10) [10] (mBool (mOp2 (gInA true) (mVar 10) (mVar 6))) (mVar 10)) mNil)))))))
(mRet (mTup (mCons (mFrz (mVar 5)) (mCons (mFrz (mVar 6)) mNil))))))))))
mutual
noncomputable def F_Forest_match : Nat → Fn
  | 0 => noFn
  | n + 1 => runF 4 (b_Forest_match (F_Forest_match n) (F_Forest__matched n))
noncomputable def F_Forest__matched : Nat → Fn
  | 0 => noFn
  | n + 1 => runF 11 (b_Forest__matched (F_Forest_match n) (F_Forest__matched n))
end
theorem d_Forest_match (T : Txt g mg) (NB : NoB mg) {R_Forest_match R_Forest__matched : Fn} {k : Nat} (hk : 0 ≤ k) (hm_Forest_match : Met g mg base "Forest" "match" k ["self", "cut", "tree"] R_Forest_match) (hm_Forest__matched : Met g mg base "Forest" "_matched" k ["self", "cut", "tree"] R_Forest__matched) {f : Addr} {fd : FuncData} (F : Fun g.K "match" "Forest.match" s_Forest_match f fd) : Ok g mg base (k + 1) f fd ["self", "cut", "tree"] (runF 4 (b_Forest_match R_Forest_match R_Forest__matched)) := by
  refine def_ok F sc_Forest_match (by decide) fun cdv A outer s H E B hg hE hr => ?_
  subst hg
  have hK := (rfl : B.g.K = B.g.K)
  have O := (⟨rfl, rfl, rfl, rfl, rfl⟩ : On (cxOf (L2.CX B.g.P B.g.w) B.g.P B.g.w B.g.K mg base N_Forest_match "Forest.match" (defScope s_Forest_match) f cdv A outer s H E) B.g mg base)
  have tk : Takes (cxOf (L2.CX B.g.P B.g.w) B.g.P B.g.w B.g.K mg base N_Forest_match "Forest.match" (defScope s_Forest_match) f cdv A outer s H E) (fun cls d _ H => B.E cls d H) := by subst hE; exact takes_of rfl rfl rfl rfl
  exact (fs_cons (fs_set (i := 3) sc_Forest_match.nd rfl (Or.inl rfl) (f_tup (fa_cons (f_var (pv 1)) (fa_cons (f_var (pv 2)) fa_nil))))
(fs_cons (fs_if (f_tcmp (notInA_ok O (hu65 hr)) (f_var (pv 3)) (f_fld hK (T.fld_Forest_matches) (f_var (pv 0))) rfl)
(fs_one (fs_asg (f_meth O hm_Forest__matched (hr.mono (by omega)) tk (f_var (pv 0)) (fa_cons (f_var (pv 1)) (fa_cons (f_var (pv 2)) fa_nil))) (fg_sub (f_fld hK (T.fld_Forest_matches) (f_var (pv 0))) (f_var (pv 3)) (setA_ok O (hu64 hr)) (pg_sub (f_fld hK (T.fld_Forest_matches) (f_var (pv 0))) (f_var (pv 3)) (setA_ok O (hu64 hr))))))
fs_nil)
(fs_one (fs_ret (f_ix (ixA_ok O (hu64 hr)) (f_fld hK (T.fld_Forest_matches) (f_var (pv 0))) (f_var (pv 3)) (fun _ _ => rfl))))))
theorem d_Forest__matched (T : Txt g mg) (NB : NoB mg) {R_Forest_match R_Forest__matched : Fn} {k : Nat} (hk : 0 ≤ k) (hm_Forest_match : Met g mg base "Forest" "match" k ["self", "cut", "tree"] R_Forest_match) (hm_Forest__matched : Met g mg base "Forest" "_matched" k ["self", "cut", "tree"] R_Forest__matched) {f : Addr} {fd : FuncData} (F : Fun g.K "_matched" "Forest._matched" s_Forest__matched f fd) : Ok g mg base (k + 1) f fd ["self", "cut", "tree"] (runF 11 (b_Forest__matched R_Forest_match R_Forest__matched)) := by
  refine def_ok F sc_Forest__matched (by decide) fun cdv A outer s H E B hg hE hr => ?_
  subst hg
  have hK := (rfl : B.g.K = B.g.K)
  have O := (⟨rfl, rfl, rfl, rfl, rfl⟩ : On (cxOf (L2.CX B.g.P B.g.w) B.g.P B.g.w B.g.K mg base N_Forest__matched "Forest._matched" (defScope s_Forest__matched) f cdv A outer s H E) B.g mg base)
  have tk : Takes (cxOf (L2.CX B.g.P B.g.w) B.g.P B.g.w B.g.K mg base N_Forest__matched "Forest._matched" (defScope s_Forest__matched) f cdv A outer s H E) (fun cls d _ H => B.E cls d H) := by subst hE; exact takes_of rfl rfl rfl rfl
  exact (fs_cons (fs_if (f_tcmp (inA_ok O (hu65 hr)) (f_var (pv 1)) (f_tup (fa_cons (f_glob O T.K_YES) (fa_cons (f_glob O T.K_NO) fa_nil))) rfl)
(fs_one (fs_ret (f_ifE (f_tcmp (eqA_ok hK (hu64 hr)) (f_var (pv 1)) (f_glob O T.K_YES) (nomark _)) (f_tup (fa_cons (f_lst (fa_cons (f_var (pv 2)) fa_nil)) (fa_cons (f_lst fa_nil) fa_nil))) (f_tup (fa_cons (f_lst fa_nil) (fa_cons (f_lst (fa_cons (f_var (pv 2)) fa_nil)) fa_nil))))))
fs_nil)
(fs_cons (fs_par (i := 3) (j := 4) rfl sc_Forest__matched.nd rfl rfl (by decide) rfl rfl (fa_cons (f_ix (ixA_ok O (hu64 hr)) (f_fld hK (T.fld_Forest_entries) (f_var (pv 0))) (f_var (pv 1)) (fun _ _ => rfl)) (fa_cons (f_ix (ixA_ok O (hu64 hr)) (f_fld hK (T.fld_Forest_entries) (f_var (pv 0))) (f_var (pv 2)) (fun _ _ => rfl)) fa_nil)))
(fs_cons (fs_if (f_tcmp (notInA_ok O (hu65 hr)) (f_ix (ixA_ok O (hu64 hr)) (f_var (pv 3)) f_int (fun _ _ => rfl)) (f_tup (fa_cons f_str (fa_cons f_str fa_nil))) rfl)
(fs_one (fs_ret (f_ifE (f_tcmp (eqA_ok hK (hu64 hr)) (f_var (pv 1)) (f_var (pv 2)) (nomark _)) (f_tup (fa_cons (f_lst fa_nil) (fa_cons (f_lst fa_nil) fa_nil))) f_non)))
fs_nil)
(fs_cons (fs_if (f_tcmp (ne_ok hK (hu64 hr)) (f_sl hK (f_var (pv 3)) fp_none (fp_some f_int)) (f_sl hK (f_var (pv 4)) fp_none (fp_some f_int)) (nomark _))
(fs_one (fs_ret f_non))
fs_nil)
(fs_cons (fs_parT hK rfl (fa_cons (f_box fa_nil) (fa_cons (f_box fa_nil) fa_nil)) (fg_cons (fg_name (pg_name (i := 5) sc_Forest__matched.nd rfl (Or.inr rfl))) (fg_cons (fg_name (pg_name (i := 6) sc_Forest__matched.nd rfl (Or.inr rfl))) fg_nil)))
(fs_cons (fs_for (passes_of rfl) rfl (fi_zip hK rfl (by rw [O.m]; exact NB.zip) (fa_cons (f_sl hK (f_var (pv 3)) (fp_some f_int) fp_none) (fa_cons (f_sl hK (f_var (pv 4)) (fp_some f_int) fp_none) fa_nil))) (fg_tup hK rfl (fg_cons (fg_name (pg_name (i := 7) sc_Forest__matched.nd rfl (Or.inl rfl))) (fg_cons (fg_name (pg_name (i := 8) sc_Forest__matched.nd rfl (Or.inl rfl))) fg_nil)))
(fs_cons (fs_set (i := 9) sc_Forest__matched.nd rfl (Or.inl rfl) (f_meth O hm_Forest_match (hr.mono (by omega)) tk (f_var (pv 0)) (fa_cons (f_var (pv 7)) (fa_cons (f_var (pv 8)) fa_nil))))
(fs_cons (fs_if (f_tcmp (is_ok) (f_var (pv 9)) f_non (nomark _))
(fs_one (fs_ret f_non))
fs_nil)
(fs_cons (fs_expr (f_lm hK PySem.F.slot_list_extend PySem.F.type_list_extend (extend_ok hK) (f_var (pv 5)) (fa_cons (f_lc (own := [(("at" : Str), 10)]) hK rfl sc_Forest__matched.nd (fi_seq hK (f_ix (ixA_ok O (hu64 hr)) (f_var (pv 9)) f_int (fun _ _ => rfl))) (blkOk_by (N := N_Forest__matched) (sc := defScope s_Forest__matched) (by decide +kernel)) (by decide) (fun _ _ _ _ _ => pg_name (i := 10) sc_Forest__matched.nd rfl (Or.inl rfl)) (fun D1 _ _ _ _ _ => fts_one (f_tcmp (notInA_ok (onc D1 O) (hu65 hr)) (f_var (pv 10)) (f_var (pv 5)) rfl)) (fun D1 _ _ _ _ _ => (f_var (pv 10)))) fa_nil)))
(fs_one (fs_expr (f_lm hK PySem.F.slot_list_extend PySem.F.type_list_extend (extend_ok hK) (f_var (pv 6)) (fa_cons (f_lc (own := [(("at" : Str), 10)]) hK rfl sc_Forest__matched.nd (fi_seq hK (f_ix (ixA_ok O (hu64 hr)) (f_var (pv 9)) f_int (fun _ _ => rfl))) (blkOk_by (N := N_Forest__matched) (sc := defScope s_Forest__matched) (by decide +kernel)) (by decide) (fun _ _ _ _ _ => pg_name (i := 10) sc_Forest__matched.nd rfl (Or.inl rfl)) (fun D1 _ _ _ _ _ => fts_one (f_tcmp (notInA_ok (onc D1 O) (hu65 hr)) (f_var (pv 10)) (f_var (pv 6)) rfl)) (fun D1 _ _ _ _ _ => (f_var (pv 10)))) fa_nil))))))))
(fs_one (fs_ret (f_tup (fa_cons (f_frz (f_var (pv 5))) (fa_cons (f_frz (f_var (pv 6))) fa_nil)))))))))))
theorem rec_Forest_match (T : Txt g mg) (NB : NoB mg) : ∀ n : Nat, (Met g mg base "Forest" "match" (1 + 1 * n) ["self", "cut", "tree"] (F_Forest_match n)) ∧ (Met g mg base "Forest" "_matched" (1 + 1 * n) ["self", "cut", "tree"] (F_Forest__matched n))
  | 0 => ⟨T.m_Forest_match.met (fun f fd F => F.binds (ps := ["self", "cut", "tree"]) fun _ _ _ _ _ _ us hl => match us, hl with | [_, _, _], _ => rfl) fun f fd F => no_ok (k := 0) F sc_Forest_match, T.m_Forest__matched.met (fun f fd F => F.binds (ps := ["self", "cut", "tree"]) fun _ _ _ _ _ _ us hl => match us, hl with | [_, _, _], _ => rfl) fun f fd F => no_ok (k := 0) F sc_Forest__matched⟩
  | n + 1 => by
    obtain ⟨hm_Forest_match, hm_Forest__matched⟩ := rec_Forest_match T NB n
    exact ⟨T.m_Forest_match.met (fun f fd F => F.binds (ps := ["self", "cut", "tree"]) fun _ _ _ _ _ _ us hl => match us, hl with | [_, _, _], _ => rfl) fun f fd F => d_Forest_match T NB (k := 1 + 1 * n) (by omega) hm_Forest_match hm_Forest__matched F, T.m_Forest__matched.met (fun f fd F => F.binds (ps := ["self", "cut", "tree"]) fun _ _ _ _ _ _ us hl => match us, hl with | [_, _, _], _ => rfl) fun f fd F => d_Forest__matched T NB (k := 1 + 1 * n) (by omega) hm_Forest_match hm_Forest__matched F⟩
theorem m_Forest_match (T : Txt g mg) (NB : NoB mg) (n : Nat) : Met g mg base "Forest" "match" (1 + 1 * n) ["self", "cut", "tree"] (F_Forest_match n) := (rec_Forest_match T NB n).1
theorem m_Forest__matched (T : Txt g mg) (NB : NoB mg) (n : Nat) : Met g mg base "Forest" "_matched" (1 + 1 * n) ["self", "cut", "tree"] (F_Forest__matched n) := (rec_Forest_match T NB n).2
abbrev N_Forest_is_cut : List Str := ["self", "cut", "tree", "one", "found"]
theorem sc_Forest_is_cut : FnScope N_Forest_is_cut ["self", "cut", "tree"] (defScope s_Forest_is_cut) := ⟨rfl, rfl, rfl, by decide +kernel, rfl, by decide +kernel, by decide +kernel⟩
noncomputable def b_Forest_is_cut : FM Fl :=
(mSeq (mFor (mIt (mMeth ("Forest" : Str) ("within" : Str) 2 F_Forest_within (mVar 0) (mCons (mVar 2) mNil))) (gSet 3)
(mSeq (mAsg (mMeth ("Forest" : Str) ("match" : Str) 3 (F_Forest_match 30) (mVar 0) (mCons (mVar 1) (mCons (mVar 3) mNil))) (gSet 4))
(mIf (mAndT (mBool (mOp2 (gIsN true) (mVar 4) (mC .none))) (mAndT (mBool (mOp2 gLe (mOpn gLen (mCons (mOp2 gIxA (mVar 4) (mC (.int 0))) mNil)) (mC (.int 1)))) (mBool (mOp2 gLe (mOpn gLen (mCons (mOp2 gIxA (mVar 4) (mC (.int 1))) mNil)) (mC (.int 1))))))
(mRet (mC (.bool true)))
mNext)))
(mRet (mC (.bool false))))
noncomputable def F_Forest_is_cut : Fn := runF 5 b_Forest_is_cut
theorem d_Forest_is_cut (T : Txt g mg) (NB : NoB mg) {f : Addr} {fd : FuncData} (F : Fun g.K "is_cut" "Forest.is_cut" s_Forest_is_cut f fd) : Ok g mg base (31 + 1) f fd ["self", "cut", "tree"] (runF 5 (b_Forest_is_cut)) := by
  refine def_ok F sc_Forest_is_cut (by decide) fun cdv A outer s H E B hg hE hr => ?_
  subst hg
  have hK := (rfl : B.g.K = B.g.K)
  have O := (⟨rfl, rfl, rfl, rfl, rfl⟩ : On (cxOf (L2.CX B.g.P B.g.w) B.g.P B.g.w B.g.K mg base N_Forest_is_cut "Forest.is_cut" (defScope s_Forest_is_cut) f cdv A outer s H E) B.g mg base)
  have tk : Takes (cxOf (L2.CX B.g.P B.g.w) B.g.P B.g.w B.g.K mg base N_Forest_is_cut "Forest.is_cut" (defScope s_Forest_is_cut) f cdv A outer s H E) (fun cls d _ H => B.E cls d H) := by subst hE; exact takes_of rfl rfl rfl rfl
  exact (fs_cons (fs_for (passes_of rfl) rfl (fi_seq hK (f_meth O (m_Forest_within T NB) (hr.mono (by omega)) tk (f_var (pv 0)) (fa_cons (f_var (pv 2)) fa_nil))) (fg_name (pg_name (i := 3) sc_Forest_is_cut.nd rfl (Or.inl rfl)))
(fs_cons (fs_set (i := 4) sc_Forest_is_cut.nd rfl (Or.inl rfl) (f_meth O (m_Forest_match T NB 30) (hr.mono (by omega)) tk (f_var (pv 0)) (fa_cons (f_var (pv 1)) (fa_cons (f_var (pv 3)) fa_nil))))
(fs_one (fs_if (PW.pt (f_andW (f_tcmp (isNot_ok) (f_var (pv 4)) f_non (nomark _)) (f_andW (f_tcmp (le_ok) (f_blt (len_ok hK) rfl (by rw [O.m]; exact NB.len) (by decide +kernel) (fa_cons (f_ix (ixA_ok O (hu64 hr)) (f_var (pv 4)) f_int (fun _ _ => rfl)) fa_nil)) f_int (nomark _)) (f_and1 (f_tcmp (le_ok) (f_blt (len_ok hK) rfl (by rw [O.m]; exact NB.len) (by decide +kernel) (fa_cons (f_ix (ixA_ok O (hu64 hr)) (f_var (pv 4)) f_int (fun _ _ => rfl)) fa_nil)) f_int (nomark _))))))
(fs_one (fs_ret f_bl))
fs_nil))))
(fs_one (fs_ret f_bl)))
theorem m_Forest_is_cut (T : Txt g mg) (NB : NoB mg) : Met g mg base "Forest" "is_cut" 32 ["self", "cut", "tree"] F_Forest_is_cut :=
  T.m_Forest_is_cut.met (fun f fd F => F.binds (ps := ["self", "cut", "tree"]) fun _ _ _ _ _ _ us hl => match us, hl with | [_, _, _], _ => rfl) fun f fd F => d_Forest_is_cut T NB F
abbrev N_Forest___init__ : List Str := ["self"]
theorem sc_Forest___init__ : FnScope N_Forest___init__ ["self"] (defScope s_Forest___init__) := ⟨rfl, rfl, rfl, by decide +kernel, rfl, by decide +kernel, by decide +kernel⟩
noncomputable def b_Forest___init__ : FM Fl :=
(mSeq (mSetFld ("Forest" : Str) ("entries" : Str) (mBox (mCons (mTup (mCons (mC (.str ("yes" : Str))) mNil)) (mCons (mTup (mCons (mC (.str ("no" : Str))) mNil)) mNil))) (mVar 0))
(mSeq (mSetFld ("Forest" : Str) ("known" : Str) (mDisp true (((mTup (mCons (mC (.str ("yes" : Str))) mNil)), (mC k_YES)) :: (((mTup (mCons (mC (.str ("no" : Str))) mNil)), (mC k_NO)) :: []))) (mVar 0))
(mSeq (mSetFld ("Forest" : Str) ("endings" : Str) (mC (.dict [])) (mVar 0))
(mSetFld ("Forest" : Str) ("matches" : Str) (mNew (.dcn [])) (mVar 0)))))
noncomputable def F_Forest___init__ : Fn := runF 1 b_Forest___init__
theorem d_Forest___init__ (T : Txt g mg) (NB : NoB mg) {f : Addr} {fd : FuncData} (F : Fun g.K "__init__" "Forest.__init__" s_Forest___init__ f fd) : Ok g mg base (0 + 1) f fd ["self"] (runF 1 (b_Forest___init__)) := by
  refine def_ok F sc_Forest___init__ (by decide) fun cdv A outer s H E B hg hE hr => ?_
  subst hg
  have hK := (rfl : B.g.K = B.g.K)
  have O := (⟨rfl, rfl, rfl, rfl, rfl⟩ : On (cxOf (L2.CX B.g.P B.g.w) B.g.P B.g.w B.g.K mg base N_Forest___init__ "Forest.__init__" (defScope s_Forest___init__) f cdv A outer s H E) B.g mg base)
  have tk : Takes (cxOf (L2.CX B.g.P B.g.w) B.g.P B.g.w B.g.K mg base N_Forest___init__ "Forest.__init__" (defScope s_Forest___init__) f cdv A outer s H E) (fun cls d _ H => B.E cls d H) := by subst hE; exact takes_of rfl rfl rfl rfl
  exact (fs_cons (fs_fld hK (T.fld_Forest_entries) (f_var (pv 0)) (f_box (fa_cons (f_tup (fa_cons f_str fa_nil)) (fa_cons (f_tup (fa_cons f_str fa_nil)) fa_nil))))
(fs_cons (fs_fld hK (T.fld_Forest_known) (f_var (pv 0)) (f_dispN O (hu64 hr) (fps_cons (fun _ => (f_tup (fa_cons f_str fa_nil))) (fun _ => (f_glob O T.K_YES)) (fps_cons (fun _ => (f_tup (fa_cons f_str fa_nil))) (fun _ => (f_glob O T.K_NO)) fps_nil)) rfl rfl (by decide) (by decide)))
(fs_cons (fs_fld hK (T.fld_Forest_endings) (f_var (pv 0)) f_dict0D)
(fs_one (fs_fld hK (T.fld_Forest_matches) (f_var (pv 0)) (f_dict0N O))))))
theorem k_Forest (T : Txt g mg) (NB : NoB mg) : Mak g mg base "Forest" "Forest" 1 ["self"] F_Forest___init__ :=
  T.k_Forest.mak (fun f fd F => F.binds (ps := ["self"]) fun _ _ _ _ _ _ us hl => match us, hl with | [_], _ => rfl) fun f fd F => d_Forest___init__ T NB F
abbrev N_need_tree : List Str := ["parts", "tree"]
theorem sc_need_tree : FnScope N_need_tree ["parts", "tree"] (defScope s_need_tree) := ⟨rfl, rfl, rfl, by decide +kernel, rfl, by decide +kernel, by decide +kernel⟩
noncomputable def b_need_tree : FM Fl :=
(mSeq (mExpr (mCall 1 F_need_parts (mCons (mVar 0) mNil)))
(mIf (mNotT (mTruth (mCall 2 F_is_tree_over (mCons (mVar 0) (mCons (mVar 1) mNil)))))
(mRaise ("BadTree" : Str) gi_BadTree (mCons (mC (.str ("this is no tree" : Str))) mNil))
mNext))
noncomputable def F_need_tree : Fn := runF 2 b_need_tree
theorem d_need_tree (T : Txt g mg) (NB : NoB mg) {f : Addr} {fd : FuncData} (F : Fun g.K "need_tree" "need_tree" s_need_tree f fd) : Ok g mg base (4 + 1) f fd ["parts", "tree"] (runF 2 (b_need_tree)) := by
  refine def_ok F sc_need_tree (by decide) fun cdv A outer s H E B hg hE hr => ?_
  subst hg
  have hK := (rfl : B.g.K = B.g.K)
  have O := (⟨rfl, rfl, rfl, rfl, rfl⟩ : On (cxOf (L2.CX B.g.P B.g.w) B.g.P B.g.w B.g.K mg base N_need_tree "need_tree" (defScope s_need_tree) f cdv A outer s H E) B.g mg base)
  have tk : Takes (cxOf (L2.CX B.g.P B.g.w) B.g.P B.g.w B.g.K mg base N_need_tree "need_tree" (defScope s_need_tree) f cdv A outer s H E) (fun cls d _ H => B.E cls d H) := by subst hE; exact takes_of rfl rfl rfl rfl
  exact (fs_cons (fs_expr (f_call O (c_need_parts T NB) (hr.mono (by omega)) tk (fa_cons (f_var (pv 0)) fa_nil) rfl))
(fs_one (fs_if (f_tnot (f_truth hK (f_call O (c_is_tree_over T NB) (hr.mono (by omega)) tk (fa_cons (f_var (pv 0)) (fa_cons (f_var (pv 1)) fa_nil)) rfl)))
(fs_one (fs_raise O (rai_BadTree T) (hr.mono (by omega)) tk rfl (fa_cons f_str fa_nil) rfl))
fs_nil)))
theorem c_need_tree (T : Txt g mg) (NB : NoB mg) : Cal g mg base "need_tree" 5 ["parts", "tree"] F_need_tree :=
  T.f_need_tree.cal (fun f fd F => F.binds (ps := ["parts", "tree"]) fun _ _ _ _ _ _ us hl => match us, hl with | [_, _], _ => rfl) fun f fd F => d_need_tree T NB F
abbrev N_is_cut : List Str := ["parts", "tree", "thing", "forest"]
theorem sc_is_cut : FnScope N_is_cut ["parts", "tree", "thing"] (defScope s_is_cut) := ⟨rfl, rfl, rfl, by decide +kernel, rfl, by decide +kernel, by decide +kernel⟩
noncomputable def b_is_cut : FM Fl :=
(mSeq (mExpr (mCall 2 F_need_tree (mCons (mVar 0) (mCons (mVar 1) mNil))))
(mSeq (mIf (mNotT (mTruth (mCall 2 F_is_tree_over (mCons (mVar 0) (mCons (mVar 2) mNil)))))
(mRet (mC (.bool false)))
mNext)
(mSeq (mAsg (mMake ("Forest" : Str) 1 F_Forest___init__ mNil) (gSet 3))
(mRet (mMeth ("Forest" : Str) ("is_cut" : Str) 3 F_Forest_is_cut (mVar 3) (mCons (mMeth ("Forest" : Str) ("put" : Str) 2 (F_Forest_put 30) (mVar 3) (mCons (mVar 2) mNil)) (mCons (mMeth ("Forest" : Str) ("put" : Str) 2 (F_Forest_put 30) (mVar 3) (mCons (mVar 1) mNil)) mNil)))))))
noncomputable def F_is_cut : Fn := runF 4 b_is_cut
theorem d_is_cut (T : Txt g mg) (NB : NoB mg) {f : Addr} {fd : FuncData} (F : Fun g.K "is_cut" "is_cut" s_is_cut f fd) : Ok g mg base (32 + 1) f fd ["parts", "tree", "thing"] (runF 4 (b_is_cut)) := by
  refine def_ok F sc_is_cut (by decide) fun cdv A outer s H E B hg hE hr => ?_
  subst hg
  have hK := (rfl : B.g.K = B.g.K)
  have O := (⟨rfl, rfl, rfl, rfl, rfl⟩ : On (cxOf (L2.CX B.g.P B.g.w) B.g.P B.g.w B.g.K mg base N_is_cut "is_cut" (defScope s_is_cut) f cdv A outer s H E) B.g mg base)
  have tk : Takes (cxOf (L2.CX B.g.P B.g.w) B.g.P B.g.w B.g.K mg base N_is_cut "is_cut" (defScope s_is_cut) f cdv A outer s H E) (fun cls d _ H => B.E cls d H) := by subst hE; exact takes_of rfl rfl rfl rfl
  exact (fs_cons (fs_expr (f_call O (c_need_tree T NB) (hr.mono (by omega)) tk (fa_cons (f_var (pv 0)) (fa_cons (f_var (pv 1)) fa_nil)) rfl))
(fs_cons (fs_if (f_tnot (f_truth hK (f_call O (c_is_tree_over T NB) (hr.mono (by omega)) tk (fa_cons (f_var (pv 0)) (fa_cons (f_var (pv 2)) fa_nil)) rfl)))
(fs_one (fs_ret f_bl))
fs_nil)
(fs_cons (fs_set (i := 3) sc_is_cut.nd rfl (Or.inl rfl) (f_make0 O (k_Forest T NB) (hr.mono (by omega)) tk rfl))
(fs_one (fs_ret (f_meth O (m_Forest_is_cut T NB) (hr.mono (by omega)) tk (f_var (pv 3)) (fa_cons (f_meth O (m_Forest_put T NB 30) (hr.mono (by omega)) tk (f_var (pv 3)) (fa_cons (f_var (pv 2)) fa_nil)) (fa_cons (f_meth O (m_Forest_put T NB 30) (hr.mono (by omega)) tk (f_var (pv 3)) (fa_cons (f_var (pv 1)) fa_nil)) fa_nil))))))))
theorem c_is_cut (T : Txt g mg) (NB : NoB mg) : Cal g mg base "is_cut" 33 ["parts", "tree", "thing"] F_is_cut :=
  T.f_is_cut.cal (fun f fd F => F.binds (ps := ["parts", "tree", "thing"]) fun _ _ _ _ _ _ us hl => match us, hl with | [_, _, _], _ => rfl) fun f fd F => d_is_cut T NB F
theorem ck_is_cut_thing_tree_parts (T : Txt g mg) (NB : NoB mg) : CalK g mg base "is_cut" 33 ["parts", "tree", "thing"] F_is_cut ["thing", "tree", "parts"] [2, 1, 0] := let ⟨f, fd, h1, F⟩ := T.f_is_cut.ex; ⟨f, fd, h1, F.kp, Fun.kb F fun _ _ _ _ _ _ ws hl => match ws, hl with | [_, _, _], _ => rfl, d_is_cut T NB F⟩
abbrev N__law_begun : List Str := ["script", "wide", "grain"]
theorem sc__law_begun : FnScope N__law_begun ["script"] (defScope s__law_begun) := ⟨rfl, rfl, rfl, by decide +kernel, rfl, by decide +kernel, by decide +kernel⟩
noncomputable def b__law_begun : FM Fl :=
(mSeq (mAsg (mCompB (mIt (mVar 0)) (.nm 2) [2] (mBool (mOp2 gGe (mOpn gAbs (mCons (mVar 2) mNil)) (mOp2 gPow (mC (.int 10)) (mC (.int 18))))) (mOp2 gMinus (mOpn gAbs (mCons (mVar 2) mNil)) (mOp2 gPow (mC (.int 10)) (mC (.int 18))))) (gSet 1))
(mRet (mDisp false (((mC (.str ("wide" : Str))), (mVar 1)) :: (((mC (.str ("cells" : Str))), (mComp (mIt (mVar 0)) (.nm 2) [2] mYes (mOp2 gMod (mOpn gInt (mCons (mOpn gAbs (mCons (mVar 2) mNil)) mNil)) (mC (.int 2147483629))))) :: (((mC (.str ("rest" : Str))), (mC (.int 0))) :: (((mC (.str ("turn" : Str))), (mC (.int 0))) :: [])))))))
noncomputable def F__law_begun : Fn := runF 3 b__law_begun
theorem d__law_begun (T : Txt g mg) (NB : NoB mg) {f : Addr} {fd : FuncData} (F : Fun g.K "_law_begun" "_law_begun" s__law_begun f fd) : Ok g mg base (0 + 1) f fd ["script"] (runF 3 (b__law_begun)) := by
  refine def_ok F sc__law_begun (by decide) fun cdv A outer s H E B hg hE hr => ?_
  subst hg
  have hK := (rfl : B.g.K = B.g.K)
  have O := (⟨rfl, rfl, rfl, rfl, rfl⟩ : On (cxOf (L2.CX B.g.P B.g.w) B.g.P B.g.w B.g.K mg base N__law_begun "_law_begun" (defScope s__law_begun) f cdv A outer s H E) B.g mg base)
  have tk : Takes (cxOf (L2.CX B.g.P B.g.w) B.g.P B.g.w B.g.K mg base N__law_begun "_law_begun" (defScope s__law_begun) f cdv A outer s H E) (fun cls d _ H => B.E cls d H) := by subst hE; exact takes_of rfl rfl rfl rfl
  exact (fs_cons (fs_lcB_set (i := 1) (own := [(("grain" : Str), 2)]) rfl rfl (sw_true rfl rfl rfl (by decide +kernel)) hK rfl sc__law_begun.nd (fi_seq hK (f_var (pv 0))) (blkOk_by (N := N__law_begun) (sc := defScope s__law_begun) (by decide +kernel)) (by decide) (fun _ _ _ _ _ => pg_name (i := 2) sc__law_begun.nd rfl (Or.inl rfl)) (fun D1 _ _ _ _ _ => fts_one (f_tcmp (ge_ok) (f_blt (abs_ok) rfl (by rw [(onc D1 O).m]; exact NB.abs) (by decide +kernel) (fa_cons (f_var (pv 2)) fa_nil)) (f_bin (pow_ok) f_int f_int) (nomark _))) (fun D1 _ _ _ _ _ => (f_bin (sub_ok) (f_blt (abs_ok) rfl (by rw [(onc D1 O).m]; exact NB.abs) (by decide +kernel) (fa_cons (f_var (pv 2)) fa_nil)) (f_bin (pow_ok) f_int f_int))))
(fs_one (fs_ret (f_disp (fps_cons (fun _ => f_str) (fun _ => (f_var (pv 1))) (fps_cons (fun _ => f_str) (fun _ => (f_lc (own := [(("grain" : Str), 2)]) hK rfl sc__law_begun.nd (fi_seq hK (f_var (pv 0))) (blkOk_by (N := N__law_begun) (sc := defScope s__law_begun) (by decide +kernel)) (by decide) (fun _ _ _ _ _ => pg_name (i := 2) sc__law_begun.nd rfl (Or.inl rfl)) (fun D1 _ _ _ _ _ => fts_nil) (fun D1 _ _ _ _ _ => (f_bin (mod_ok) (f_typ (T := "int") (int_ok) rfl (by rw [(onc D1 O).m]; exact NB.int) (by decide +kernel) (fa_cons (f_blt (abs_ok) rfl (by rw [(onc D1 O).m]; exact NB.abs) (by decide +kernel) (fa_cons (f_var (pv 2)) fa_nil)) fa_nil)) f_int)))) (fps_cons (fun _ => f_str) (fun _ => f_int) (fps_cons (fun _ => f_str) (fun _ => f_int) fps_nil)))) rfl rfl (by decide) (by decide)))))
theorem c__law_begun (T : Txt g mg) (NB : NoB mg) : Cal g mg base "_law_begun" 1 ["script"] F__law_begun :=
  T.f__law_begun.cal (fun f fd F => F.binds (ps := ["script"]) fun _ _ _ _ _ _ us hl => match us, hl with | [_], _ => rfl) fun f fd F => d__law_begun T NB F
abbrev N__law_mixed : List Str := ["draw", "turn", "found", "prime", "blend", "grain"]
theorem sc__law_mixed : FnScope N__law_mixed ["draw"] (defScope s__law_mixed) := ⟨rfl, rfl, rfl, by decide +kernel, rfl, by decide +kernel, by decide +kernel⟩
noncomputable def b__law_mixed : FM Fl :=
(mSeq (mPar 1 2 (mCons (mOp2 gAdd (mOp2 gIxA (mVar 0) (mC (.str ("turn" : Str)))) (mC (.int 1))) (mCons (mC (.int 0)) mNil)))
(mSeq (mAsg (mVar 1) (gSubF stAny (mVar 0) (mC (.str ("turn" : Str)))))
(mSeq (mFor (mIt (mLst (mCons (mC (.int 2147483647)) (mCons (mC (.int 2147483629)) (mCons (mC (.int 2147483587)) (mCons (mC (.int 2147483579)) mNil)))))) (gSet 3)
(mSeq (mAsg (mOp2 gAdd (mOp2 gMul (mC (.int 48271)) (mVar 1)) (mOp2 gDiv (mVar 3) (mC (.int 37)))) (gSet 4))
(mSeq (mFor (mIt (mOp2 gIxA (mVar 0) (mC (.str ("cells" : Str))))) (gSet 5)
(mAsg (mOp2 gMod (mOpn gInt (mCons (mOp2 gAdd (mOp2 gAdd (mOp2 gMul (mVar 4) (mC (.int 69621))) (mVar 5)) (mVar 1)) mNil)) (mVar 3)) (gSet 4)))
(mAsg (mOp2 gAdd (mOp2 gMul (mVar 2) (mC (.int 2147483647))) (mOp2 gMod (mOpn gInt (mCons (mOp2 gPow (mVar 4) (mC (.int 5))) mNil)) (mVar 3))) (gSet 2)))))
(mRet (mVar 2)))))
noncomputable def F__law_mixed : Fn := runF 6 b__law_mixed
theorem d__law_mixed (T : Txt g mg) (NB : NoB mg) {f : Addr} {fd : FuncData} (F : Fun g.K "_law_mixed" "_law_mixed" s__law_mixed f fd) : Ok g mg base (0 + 1) f fd ["draw"] (runF 6 (b__law_mixed)) := by
  refine def_ok F sc__law_mixed (by decide) fun cdv A outer s H E B hg hE hr => ?_
  subst hg
  have hK := (rfl : B.g.K = B.g.K)
  have O := (⟨rfl, rfl, rfl, rfl, rfl⟩ : On (cxOf (L2.CX B.g.P B.g.w) B.g.P B.g.w B.g.K mg base N__law_mixed "_law_mixed" (defScope s__law_mixed) f cdv A outer s H E) B.g mg base)
  have tk : Takes (cxOf (L2.CX B.g.P B.g.w) B.g.P B.g.w B.g.K mg base N__law_mixed "_law_mixed" (defScope s__law_mixed) f cdv A outer s H E) (fun cls d _ H => B.E cls d H) := by subst hE; exact takes_of rfl rfl rfl rfl
  exact (fs_cons (fs_par (i := 1) (j := 2) rfl sc__law_mixed.nd rfl rfl (by decide) rfl rfl (fa_cons (f_bin (add_ok hK) (f_ix (ixA_ok O (hu64 hr)) (f_var (pv 0)) f_str (fun _ _ => rfl)) f_int) (fa_cons f_int fa_nil)))
(fs_cons (fs_asg (f_var (pv 1)) (fg_sub (f_var (pv 0)) f_str (setA_ok O (hu64 hr)) (pg_sub (f_var (pv 0)) f_str (setA_ok O (hu64 hr)))))
(fs_cons (fs_for (passes_of rfl) rfl (fi_seq hK (f_lst (fa_cons f_int (fa_cons f_int (fa_cons f_int (fa_cons f_int fa_nil)))))) (fg_name (pg_name (i := 3) sc__law_mixed.nd rfl (Or.inl rfl)))
(fs_cons (fs_set (i := 4) sc__law_mixed.nd rfl (Or.inl rfl) (f_bin (add_ok hK) (f_bin (mul_ok) f_int (f_var (pv 1))) (f_bin (div_ok) (f_var (pv 3)) f_int)))
(fs_cons (fs_for (passes_of rfl) rfl (fi_seq hK (f_ix (ixA_ok O (hu64 hr)) (f_var (pv 0)) f_str (fun _ _ => rfl))) (fg_name (pg_name (i := 5) sc__law_mixed.nd rfl (Or.inl rfl)))
(fs_one (fs_set (i := 4) sc__law_mixed.nd rfl (Or.inl rfl) (f_bin (mod_ok) (f_typ (T := "int") (int_ok) rfl (by rw [O.m]; exact NB.int) (by decide +kernel) (fa_cons (f_bin (add_ok hK) (f_bin (add_ok hK) (f_bin (mul_ok) (f_var (pv 4)) f_int) (f_var (pv 5))) (f_var (pv 1))) fa_nil)) (f_var (pv 3))))))
(fs_one (fs_set (i := 2) sc__law_mixed.nd rfl (Or.inl rfl) (f_bin (add_ok hK) (f_bin (mul_ok) (f_var (pv 2)) f_int) (f_bin (mod_ok) (f_typ (T := "int") (int_ok) rfl (by rw [O.m]; exact NB.int) (by decide +kernel) (fa_cons (f_bin (pow_ok) (f_var (pv 4)) f_int) fa_nil)) (f_var (pv 3)))))))))
(fs_one (fs_ret (f_var (pv 2)))))))
theorem c__law_mixed (T : Txt g mg) (NB : NoB mg) : Cal g mg base "_law_mixed" 1 ["draw"] F__law_mixed :=
  T.f__law_mixed.cal (fun f fd F => F.binds (ps := ["draw"]) fun _ _ _ _ _ _ us hl => match us, hl with | [_], _ => rfl) fun f fd F => d__law_mixed T NB F
abbrev N__law_take : List Str := ["draw", "many", "found"]
theorem sc__law_take : FnScope N__law_take ["draw", "many"] (defScope s__law_take) := ⟨rfl, rfl, rfl, by decide +kernel, rfl, by decide +kernel, by decide +kernel⟩
noncomputable def b__law_take : FM Fl :=
(mSeq (mIf (mBool (mOp2 gEqA (mOp2 gIxA (mVar 0) (mC (.str ("rest" : Str)))) (mC (.int 0))))
(mAsg (mIfE (mBool (mOp2 gNe (mOp2 gIxA (mVar 0) (mC (.str ("wide" : Str)))) (mLst mNil))) (mEf isLst gPopAt (mOp2 gIxA (mVar 0) (mC (.str ("wide" : Str)))) (mCons (mC (.int 0)) mNil)) (mCall 1 F__law_mixed (mCons (mVar 0) mNil))) (gSubF stAny (mVar 0) (mC (.str ("rest" : Str)))))
mNext)
(mSeq (mAsg (mOp2 gMod (mOpn gInt (mCons (mOp2 gIxA (mVar 0) (mC (.str ("rest" : Str)))) mNil)) (mVar 1)) (gSet 2))
(mSeq (mAsg (mOp2 gDiv (mOp2 gIxA (mVar 0) (mC (.str ("rest" : Str)))) (mVar 1)) (gSubF stAny (mVar 0) (mC (.str ("rest" : Str)))))
(mRet (mVar 2)))))
noncomputable def F__law_take : Fn := runF 3 b__law_take
theorem d__law_take (T : Txt g mg) (NB : NoB mg) {f : Addr} {fd : FuncData} (F : Fun g.K "_law_take" "_law_take" s__law_take f fd) : Ok g mg base (1 + 1) f fd ["draw", "many"] (runF 3 (b__law_take)) := by
  refine def_ok F sc__law_take (by decide) fun cdv A outer s H E B hg hE hr => ?_
  subst hg
  have hK := (rfl : B.g.K = B.g.K)
  have O := (⟨rfl, rfl, rfl, rfl, rfl⟩ : On (cxOf (L2.CX B.g.P B.g.w) B.g.P B.g.w B.g.K mg base N__law_take "_law_take" (defScope s__law_take) f cdv A outer s H E) B.g mg base)
  have tk : Takes (cxOf (L2.CX B.g.P B.g.w) B.g.P B.g.w B.g.K mg base N__law_take "_law_take" (defScope s__law_take) f cdv A outer s H E) (fun cls d _ H => B.E cls d H) := by subst hE; exact takes_of rfl rfl rfl rfl
  exact (fs_cons (fs_if (f_tcmp (eqA_ok hK (hu64 hr)) (f_ix (ixA_ok O (hu64 hr)) (f_var (pv 0)) f_str (fun _ _ => rfl)) f_int (nomark _))
(fs_one (fs_asg (f_ifE (f_tcmp (ne_ok hK (hu64 hr)) (f_ix (ixA_ok O (hu64 hr)) (f_var (pv 0)) f_str (fun _ _ => rfl)) (f_lst fa_nil) (nomark _)) (f_lm hK PySem.F.slot_list_pop PySem.F.type_list_pop popAt_ok (f_ix (ixA_ok O (hu64 hr)) (f_var (pv 0)) f_str (fun _ _ => rfl)) (fa_cons f_int fa_nil)) (f_call O (c__law_mixed T NB) (hr.mono (by omega)) tk (fa_cons (f_var (pv 0)) fa_nil) rfl)) (fg_sub (f_var (pv 0)) f_str (setA_ok O (hu64 hr)) (pg_sub (f_var (pv 0)) f_str (setA_ok O (hu64 hr))))))
fs_nil)
(fs_cons (fs_set (i := 2) sc__law_take.nd rfl (Or.inl rfl) (f_bin (mod_ok) (f_typ (T := "int") (int_ok) rfl (by rw [O.m]; exact NB.int) (by decide +kernel) (fa_cons (f_ix (ixA_ok O (hu64 hr)) (f_var (pv 0)) f_str (fun _ _ => rfl)) fa_nil)) (f_var (pv 1))))
(fs_cons (fs_asg (f_bin (div_ok) (f_ix (ixA_ok O (hu64 hr)) (f_var (pv 0)) f_str (fun _ _ => rfl)) (f_var (pv 1))) (fg_sub (f_var (pv 0)) f_str (setA_ok O (hu64 hr)) (pg_sub (f_var (pv 0)) f_str (setA_ok O (hu64 hr)))))
(fs_one (fs_ret (f_var (pv 2)))))))
theorem c__law_take (T : Txt g mg) (NB : NoB mg) : Cal g mg base "_law_take" 2 ["draw", "many"] F__law_take :=
  T.f__law_take.cal (fun f fd F => F.binds (ps := ["draw", "many"]) fun _ _ _ _ _ _ us hl => match us, hl with | [_, _], _ => rfl) fun f fd F => d__law_take T NB F
abbrev N__law_pick : List Str := ["draw", "some"]
theorem sc__law_pick : FnScope N__law_pick ["draw", "some"] (defScope s__law_pick) := ⟨rfl, rfl, rfl, by decide +kernel, rfl, by decide +kernel, by decide +kernel⟩
noncomputable def b__law_pick : FM Fl :=
(mRet (mOp2 gIxA (mVar 1) (mCall 2 F__law_take (mCons (mVar 0) (mCons (mOpn gLen (mCons (mVar 1) mNil)) mNil)))))
noncomputable def F__law_pick : Fn := runF 2 b__law_pick
theorem d__law_pick (T : Txt g mg) (NB : NoB mg) {f : Addr} {fd : FuncData} (F : Fun g.K "_law_pick" "_law_pick" s__law_pick f fd) : Ok g mg base (2 + 1) f fd ["draw", "some"] (runF 2 (b__law_pick)) := by
  refine def_ok F sc__law_pick (by decide) fun cdv A outer s H E B hg hE hr => ?_
  subst hg
  have hK := (rfl : B.g.K = B.g.K)
  have O := (⟨rfl, rfl, rfl, rfl, rfl⟩ : On (cxOf (L2.CX B.g.P B.g.w) B.g.P B.g.w B.g.K mg base N__law_pick "_law_pick" (defScope s__law_pick) f cdv A outer s H E) B.g mg base)
  have tk : Takes (cxOf (L2.CX B.g.P B.g.w) B.g.P B.g.w B.g.K mg base N__law_pick "_law_pick" (defScope s__law_pick) f cdv A outer s H E) (fun cls d _ H => B.E cls d H) := by subst hE; exact takes_of rfl rfl rfl rfl
  exact (fs_one (fs_ret (f_ix (ixA_ok O (hu64 hr)) (f_var (pv 1)) (f_call O (c__law_take T NB) (hr.mono (by omega)) tk (fa_cons (f_var (pv 0)) (fa_cons (f_blt (len_ok hK) rfl (by rw [O.m]; exact NB.len) (by decide +kernel) (fa_cons (f_var (pv 1)) fa_nil)) fa_nil)) rfl) (fun _ _ => rfl))))
theorem c__law_pick (T : Txt g mg) (NB : NoB mg) : Cal g mg base "_law_pick" 3 ["draw", "some"] F__law_pick :=
  T.f__law_pick.cal (fun f fd F => F.binds (ps := ["draw", "some"]) fun _ _ _ _ _ _ us hl => match us, hl with | [_, _], _ => rfl) fun f fd F => d__law_pick T NB F
abbrev N__law_led : List Str := ["thing", "path", "k"]
theorem sc__law_led : FnScope N__law_led ["thing", "path"] (defScope s__law_led) := ⟨rfl, rfl, rfl, by decide +kernel, rfl, by decide +kernel, by decide +kernel⟩
noncomputable def b__law_led : FM Fl :=
(mSeq (mFor (mIt (mVar 1)) (gSet 2)
(mAsg (mOp2 gIxA (mVar 0) (mVar 2)) (gSet 0)))
(mRet (mVar 0)))
noncomputable def F__law_led : Fn := runF 3 b__law_led
theorem d__law_led (T : Txt g mg) (NB : NoB mg) {f : Addr} {fd : FuncData} (F : Fun g.K "_law_led" "_law_led" s__law_led f fd) : Ok g mg base (0 + 1) f fd ["thing", "path"] (runF 3 (b__law_led)) := by
  refine def_ok F sc__law_led (by decide) fun cdv A outer s H E B hg hE hr => ?_
  subst hg
  have hK := (rfl : B.g.K = B.g.K)
  have O := (⟨rfl, rfl, rfl, rfl, rfl⟩ : On (cxOf (L2.CX B.g.P B.g.w) B.g.P B.g.w B.g.K mg base N__law_led "_law_led" (defScope s__law_led) f cdv A outer s H E) B.g mg base)
  have tk : Takes (cxOf (L2.CX B.g.P B.g.w) B.g.P B.g.w B.g.K mg base N__law_led "_law_led" (defScope s__law_led) f cdv A outer s H E) (fun cls d _ H => B.E cls d H) := by subst hE; exact takes_of rfl rfl rfl rfl
  exact (fs_cons (fs_for (passes_of rfl) rfl (fi_seq hK (f_var (pv 1))) (fg_name (pg_name (i := 2) sc__law_led.nd rfl (Or.inl rfl)))
(fs_one (fs_set (i := 0) sc__law_led.nd rfl (Or.inl rfl) (f_ix (ixA_ok O (hu64 hr)) (f_var (pv 0)) (f_var (pv 2)) (fun _ _ => rfl)))))
(fs_one (fs_ret (f_var (pv 0)))))
theorem c__law_led (T : Txt g mg) (NB : NoB mg) : Cal g mg base "_law_led" 1 ["thing", "path"] F__law_led :=
  T.f__law_led.cal (fun f fd F => F.binds (ps := ["thing", "path"]) fun _ _ _ _ _ _ us hl => match us, hl with | [_, _], _ => rfl) fun f fd F => d__law_led T NB F
abbrev N__law_swapped : List Str := ["thing", "path", "part"]
theorem sc__law_swapped : FnScope N__law_swapped ["thing", "path", "part"] (defScope s__law_swapped) := ⟨rfl, rfl, rfl, by decide +kernel, rfl, by decide +kernel, by decide +kernel⟩
noncomputable def b__law_swapped (R__law_swapped : Fn) : FM Fl :=
(mSeq (mIf (mBool (mOp2 gEqA (mVar 1) (mTup mNil)))
(mRet (mVar 2))
mNext)
(mRet (mOp2 gAdd (mOp2 gAdd (mSl (mVar 0) mNoP (mPart (mOp2 gIxA (mVar 1) (mC (.int 0))))) (mTup (mCons (mCall 3 R__law_swapped (mCons (mOp2 gIxA (mVar 0) (mOp2 gIxA (mVar 1) (mC (.int 0)))) (mCons (mSl (mVar 1) (mPart (mC (.int 1))) mNoP) (mCons (mVar 2) mNil)))) mNil))) (mSl (mVar 0) (mPart (mOp2 gAdd (mOp2 gIxA (mVar 1) (mC (.int 0))) (mC (.int 1)))) mNoP))))
noncomputable def F__law_swapped : Nat → Fn
  | 0 => noFn
  | n + 1 => runF 3 (b__law_swapped (F__law_swapped n))
theorem d__law_swapped (T : Txt g mg) (NB : NoB mg) {R__law_swapped : Fn} {k : Nat} (hk : 0 ≤ k) (hc__law_swapped : Cal g mg base "_law_swapped" k ["thing", "path", "part"] R__law_swapped) {f : Addr} {fd : FuncData} (F : Fun g.K "_law_swapped" "_law_swapped" s__law_swapped f fd) : Ok g mg base (k + 1) f fd ["thing", "path", "part"] (runF 3 (b__law_swapped R__law_swapped)) := by
  refine def_ok F sc__law_swapped (by decide) fun cdv A outer s H E B hg hE hr => ?_
  subst hg
  have hK := (rfl : B.g.K = B.g.K)
  have O := (⟨rfl, rfl, rfl, rfl, rfl⟩ : On (cxOf (L2.CX B.g.P B.g.w) B.g.P B.g.w B.g.K mg base N__law_swapped "_law_swapped" (defScope s__law_swapped) f cdv A outer s H E) B.g mg base)
  have tk : Takes (cxOf (L2.CX B.g.P B.g.w) B.g.P B.g.w B.g.K mg base N__law_swapped "_law_swapped" (defScope s__law_swapped) f cdv A outer s H E) (fun cls d _ H => B.E cls d H) := by subst hE; exact takes_of rfl rfl rfl rfl
  exact (fs_cons (fs_if (f_tcmp (eqA_ok hK (hu64 hr)) (f_var (pv 1)) (f_tup fa_nil) (nomark _))
(fs_one (fs_ret (f_var (pv 2))))
fs_nil)
(fs_one (fs_ret (f_bin (add_ok hK) (f_bin (add_ok hK) (f_sl hK (f_var (pv 0)) fp_none (fp_some (f_ix (ixA_ok O (hu64 hr)) (f_var (pv 1)) f_int (fun _ _ => rfl)))) (f_tup (fa_cons (f_call O hc__law_swapped (hr.mono (by omega)) tk (fa_cons (f_ix (ixA_ok O (hu64 hr)) (f_var (pv 0)) (f_ix (ixA_ok O (hu64 hr)) (f_var (pv 1)) f_int (fun _ _ => rfl)) (fun _ _ => rfl)) (fa_cons (f_sl hK (f_var (pv 1)) (fp_some f_int) fp_none) (fa_cons (f_var (pv 2)) fa_nil))) rfl) fa_nil))) (f_sl hK (f_var (pv 0)) (fp_some (f_bin (add_ok hK) (f_ix (ixA_ok O (hu64 hr)) (f_var (pv 1)) f_int (fun _ _ => rfl)) f_int)) fp_none)))))
theorem rec__law_swapped (T : Txt g mg) (NB : NoB mg) : ∀ n : Nat, (Cal g mg base "_law_swapped" (1 + 1 * n) ["thing", "path", "part"] (F__law_swapped n))
  | 0 => T.f__law_swapped.cal (fun f fd F => F.binds (ps := ["thing", "path", "part"]) fun _ _ _ _ _ _ us hl => match us, hl with | [_, _, _], _ => rfl) fun f fd F => no_ok (k := 0) F sc__law_swapped
  | n + 1 => by
    have hc__law_swapped := rec__law_swapped T NB n
    exact T.f__law_swapped.cal (fun f fd F => F.binds (ps := ["thing", "path", "part"]) fun _ _ _ _ _ _ us hl => match us, hl with | [_, _, _], _ => rfl) fun f fd F => d__law_swapped T NB (k := 1 + 1 * n) (by omega) hc__law_swapped F
theorem c__law_swapped (T : Txt g mg) (NB : NoB mg) (n : Nat) : Cal g mg base "_law_swapped" (1 + 1 * n) ["thing", "path", "part"] (F__law_swapped n) := (rec__law_swapped T NB n)
abbrev N__law_reserved : List Str := ["some"]
theorem sc__law_reserved : FnScope N__law_reserved [] (defScope s__law_reserved) := ⟨rfl, rfl, rfl, by decide +kernel, rfl, by decide +kernel, by decide +kernel⟩
noncomputable def b__law_reserved : FM Fl :=
(mSeq (mAsg (mLst (mCons (mC (.str ("ask" : Str))) (mCons (mC (.str ("as" : Str))) (mCons (mC (.str ("be" : Str))) (mCons (mC (.str ("bind" : Str))) (mCons (mC (.str ("book" : Str))) (mCons (mC (.str ("do" : Str))) (mCons (mC (.str ("done" : Str))) (mCons (mC (.str ("each" : Str))) (mCons (mC (.str ("else" : Str))) (mCons (mC (.str ("fail" : Str))) (mCons (mC (.str ("first" : Str))) (mCons (mC (.str ("form" : Str))) (mCons (mC (.str ("get" : Str))) (mCons (mC (.str ("here" : Str))) (mCons (mC (.str ("if" : Str))) (mCons (mC (.str ("in" : Str))) mNil))))))))))))))))) (gSet 0))
(mSeq (mAsg (mOp2 gAdd (mVar 0) (mLst (mCons (mC (.str ("into" : Str))) (mCons (mC (.str ("less" : Str))) (mCons (mC (.str ("let" : Str))) (mCons (mC (.str ("means" : Str))) (mCons (mC (.str ("next" : Str))) (mCons (mC (.str ("no" : Str))) (mCons (mC (.str ("or" : Str))) (mCons (mC (.str ("pair" : Str))) (mCons (mC (.str ("part" : Str))) (mCons (mC (.str ("plus" : Str))) (mCons (mC (.str ("put" : Str))) (mCons (mC (.str ("rest" : Str))) (mCons (mC (.str ("row" : Str))) (mCons (mC (.str ("second" : Str))) mNil)))))))))))))))) (gSet 0))
(mRet (mOp2 gAdd (mVar 0) (mLst (mCons (mC (.str ("show" : Str))) (mCons (mC (.str ("then" : Str))) (mCons (mC (.str ("try" : Str))) (mCons (mC (.str ("upon" : Str))) (mCons (mC (.str ("use" : Str))) (mCons (mC (.str ("while" : Str))) (mCons (mC (.str ("with" : Str))) (mCons (mC (.str ("yes" : Str))) mNil)))))))))))))
noncomputable def F__law_reserved : Fn := runF 1 b__law_reserved
theorem d__law_reserved (T : Txt g mg) (NB : NoB mg) {f : Addr} {fd : FuncData} (F : Fun g.K "_law_reserved" "_law_reserved" s__law_reserved f fd) : Ok g mg base (0 + 1) f fd [] (runF 1 (b__law_reserved)) := by
  refine def_ok F sc__law_reserved (by decide) fun cdv A outer s H E B hg hE hr => ?_
  subst hg
  have hK := (rfl : B.g.K = B.g.K)
  have O := (⟨rfl, rfl, rfl, rfl, rfl⟩ : On (cxOf (L2.CX B.g.P B.g.w) B.g.P B.g.w B.g.K mg base N__law_reserved "_law_reserved" (defScope s__law_reserved) f cdv A outer s H E) B.g mg base)
  have tk : Takes (cxOf (L2.CX B.g.P B.g.w) B.g.P B.g.w B.g.K mg base N__law_reserved "_law_reserved" (defScope s__law_reserved) f cdv A outer s H E) (fun cls d _ H => B.E cls d H) := by subst hE; exact takes_of rfl rfl rfl rfl
  exact (fs_cons (fs_set (i := 0) sc__law_reserved.nd rfl (Or.inl rfl) (f_lst (fa_cons f_str (fa_cons f_str (fa_cons f_str (fa_cons f_str (fa_cons f_str (fa_cons f_str (fa_cons f_str (fa_cons f_str (fa_cons f_str (fa_cons f_str (fa_cons f_str (fa_cons f_str (fa_cons f_str (fa_cons f_str (fa_cons f_str (fa_cons f_str fa_nil))))))))))))))))))
(fs_cons (fs_set (i := 0) sc__law_reserved.nd rfl (Or.inl rfl) (f_bin (add_ok hK) (f_var (pv 0)) (f_lst (fa_cons f_str (fa_cons f_str (fa_cons f_str (fa_cons f_str (fa_cons f_str (fa_cons f_str (fa_cons f_str (fa_cons f_str (fa_cons f_str (fa_cons f_str (fa_cons f_str (fa_cons f_str (fa_cons f_str (fa_cons f_str fa_nil)))))))))))))))))
(fs_one (fs_ret (f_bin (add_ok hK) (f_var (pv 0)) (f_lst (fa_cons f_str (fa_cons f_str (fa_cons f_str (fa_cons f_str (fa_cons f_str (fa_cons f_str (fa_cons f_str (fa_cons f_str fa_nil))))))))))))))
theorem c__law_reserved (T : Txt g mg) (NB : NoB mg) : Cal g mg base "_law_reserved" 1 [] F__law_reserved :=
  T.f__law_reserved.cal (fun f fd F => F.binds (ps := []) fun _ _ _ _ _ _ us hl => match us, hl with | [], _ => rfl) fun f fd F => d__law_reserved T NB F
abbrev N__law_paths : List Str := ["thing", "line", "at", "path", "part", "k", "inner"]
theorem sc__law_paths : FnScope N__law_paths ["thing"] (defScope s__law_paths) := ⟨rfl, rfl, rfl, by decide +kernel, rfl, by decide +kernel, by decide +kernel⟩
noncomputable def b__law_paths : FM Fl :=
(mSeq (mPar 1 2 (mCons (mBox (mCons (mTup (mCons (mTup mNil) (mCons (mVar 0) mNil))) mNil)) (mCons (mC (.int 0)) mNil)))
(mSeq (mWhile (mBool (mOp2 gLt (mVar 2) (mOpn gLen (mCons (mVar 1) mNil))))
(mSeq (mAsg (mOp2 gIxA (mVar 1) (mVar 2)) (gTupF 2 (gConsF (gSet 3) (gConsF (gSet 4) gNilF))))
(mSeq (mAsg (mOp2 gAdd (mVar 2) (mC (.int 1))) (gSet 2))
(mIf (mTruth (mOp1 (gIs "tuple") (mVar 4)))
(mExpr (mEf isLst gExtend (mVar 1) (mCons (mComp (mRng enumTF (mCons (mVar 4) mNil)) (.tp [5, 6]) [5, 6] mYes (mTup (mCons (mOp2 gAdd (mVar 3) (mTup (mCons (mVar 5) mNil))) (mCons (mVar 6) mNil)))) mNil)))
mNext))))
(mRet (mComp (mIt (mFrz (mVar 1))) (.tp [3, 4]) [3, 4] mYes (mVar 3)))))
noncomputable def F__law_paths : Fn := runF 7 b__law_paths
theorem d__law_paths (T : Txt g mg) (NB : NoB mg) {f : Addr} {fd : FuncData} (F : Fun g.K "_law_paths" "_law_paths" s__law_paths f fd) : Ok g mg base (0 + 1) f fd ["thing"] (runF 7 (b__law_paths)) := by
  refine def_ok F sc__law_paths (by decide) fun cdv A outer s H E B hg hE hr => ?_
  subst hg
  have hK := (rfl : B.g.K = B.g.K)
  have O := (⟨rfl, rfl, rfl, rfl, rfl⟩ : On (cxOf (L2.CX B.g.P B.g.w) B.g.P B.g.w B.g.K mg base N__law_paths "_law_paths" (defScope s__law_paths) f cdv A outer s H E) B.g mg base)
  have tk : Takes (cxOf (L2.CX B.g.P B.g.w) B.g.P B.g.w B.g.K mg base N__law_paths "_law_paths" (defScope s__law_paths) f cdv A outer s H E) (fun cls d _ H => B.E cls d H) := by subst hE; exact takes_of rfl rfl rfl rfl
  exact (fs_cons (fs_par (i := 1) (j := 2) rfl sc__law_paths.nd rfl rfl (by decide) rfl rfl (fa_cons (f_box (fa_cons (f_tup (fa_cons (f_tup fa_nil) (fa_cons (f_var (pv 0)) fa_nil))) fa_nil)) (fa_cons f_int fa_nil)))
(fs_cons (fs_while (passes_of rfl) (f_tcmp (lt_ok) (f_var (pv 2)) (f_blt (len_ok hK) rfl (by rw [O.m]; exact NB.len) (by decide +kernel) (fa_cons (f_var (pv 1)) fa_nil)) (nomark _))
(fs_cons (fs_asg (f_ix (ixA_ok O (hu64 hr)) (f_var (pv 1)) (f_var (pv 2)) (fun _ _ => rfl)) (fg_tup hK rfl (fg_cons (fg_name (pg_name (i := 3) sc__law_paths.nd rfl (Or.inr rfl))) (fg_cons (fg_name (pg_name (i := 4) sc__law_paths.nd rfl (Or.inl rfl))) fg_nil))))
(fs_cons (fs_set (i := 2) sc__law_paths.nd rfl (Or.inl rfl) (f_bin (add_ok hK) (f_var (pv 2)) f_int))
(fs_one (fs_if (f_truth hK (f_is (c := "tuple") hK (by decide) (by rw [O.m]; exact NB.isinstance) (by rw [O.m]; exact NB.tuple) (by decide +kernel) (f_var (pv 4))))
(fs_one (fs_expr (f_lm hK PySem.F.slot_list_extend PySem.F.type_list_extend (extend_ok hK) (f_var (pv 1)) (fa_cons (f_lc (own := [(("k" : Str), 5), (("inner" : Str), 6)]) hK rfl sc__law_paths.nd (fi_enumT hK rfl (by rw [O.m]; exact NB.enumerate) (fa_cons (f_var (pv 4)) fa_nil)) (blkOk_by (N := N__law_paths) (sc := defScope s__law_paths) (by decide +kernel)) (by decide) (fun _ _ _ _ _ => pg_tup rfl (pgs_cons (pg_name (i := 5) sc__law_paths.nd rfl (Or.inl rfl)) (pgs_cons (pg_name (i := 6) sc__law_paths.nd rfl (Or.inl rfl)) pgs_nil))) (fun D1 _ _ _ _ _ => fts_nil) (fun D1 _ _ _ _ _ => (f_tup (fa_cons (f_bin (add_ok hK) (f_var (pv 3)) (f_tup (fa_cons (f_var (pv 5)) fa_nil))) (fa_cons (f_var (pv 6)) fa_nil))))) fa_nil))))
fs_nil)))))
(fs_one (fs_ret (f_lc (own := [(("path" : Str), 3), (("part" : Str), 4)]) hK rfl sc__law_paths.nd (fi_seq hK (f_frz (f_var (pv 1)))) (blkOk_by (N := N__law_paths) (sc := defScope s__law_paths) (by decide +kernel)) (by decide) (fun _ _ _ _ _ => pg_tup rfl (pgs_cons (pg_name (i := 3) sc__law_paths.nd rfl (Or.inl rfl)) (pgs_cons (pg_name (i := 4) sc__law_paths.nd rfl (Or.inl rfl)) pgs_nil))) (fun D1 _ _ _ _ _ => fts_nil) (fun D1 _ _ _ _ _ => (f_var (pv 3))))))))
theorem c__law_paths (T : Txt g mg) (NB : NoB mg) : Cal g mg base "_law_paths" 1 ["thing"] F__law_paths :=
  T.f__law_paths.cal (fun f fd F => F.binds (ps := ["thing"]) fun _ _ _ _ _ _ us hl => match us, hl with | [_], _ => rfl) fun f fd F => d__law_paths T NB F
abbrev N__law_odd : List Str := ["draw", "part", "names", "at", "some"]
theorem sc__law_odd : FnScope N__law_odd ["draw", "part", "names"] (defScope s__law_odd) := ⟨rfl, rfl, rfl, by decide +kernel, rfl, by decide +kernel, by decide +kernel⟩
noncomputable def b__law_odd : FM Fl :=
(mSeq (mIf (mAndT (mTruth (mOp1 (gIs "tuple") (mVar 1))) (mBool (mOp2 gGt (mCall 2 F__law_take (mCons (mVar 0) (mCons (mC (.int 3)) mNil))) (mC (.int 0)))))
(mSeq (mAsg (mCall 2 F__law_take (mCons (mVar 0) (mCons (mOp2 gAdd (mOpn gLen (mCons (mVar 1) mNil)) (mC (.int 1))) mNil))) (gSet 3))
(mSeq (mAsg (mLst (mCons (mOp2 gAdd (mSl (mVar 1) mNoP (mPart (mVar 3))) (mSl (mVar 1) (mPart (mOp2 gAdd (mVar 3) (mC (.int 1)))) mNoP)) (mCons (mOp2 gAdd (mOp2 gAdd (mSl (mVar 1) mNoP (mPart (mVar 3))) (mSl (mVar 1) (mPart (mVar 3)) (mPart (mOp2 gAdd (mVar 3) (mC (.int 1)))))) (mSl (mVar 1) (mPart (mVar 3)) mNoP)) (mCons (mRev (mVar 1)) (mCons (mOpn gListA (mCons (mVar 1) mNil)) (mCons (mOp2 gAdd (mVar 1) (mTup (mCons (mC .none) mNil))) (mCons (mTup mNil) mNil))))))) (gSet 4))
(mRet (mCall 2 F__law_pick (mCons (mVar 0) (mCons (mVar 4) mNil))))))
mNext)
(mSeq (mIf (mAndT (mTruth (mOp1 (gIs "str") (mVar 1))) (mBool (mOp2 gGt (mCall 2 F__law_take (mCons (mVar 0) (mCons (mC (.int 3)) mNil))) (mC (.int 0)))))
(mRet (mCall 2 F__law_pick (mCons (mVar 0) (mCons (mOp2 gAdd (mVar 2) (mLst (mCons (mC (.str ("" : Str))) (mCons (mC (.str ("Abc" : Str))) (mCons (mC (.str ("a1" : Str))) (mCons (mC (.str ("let" : Str))) (mCons (mC (.str ("abcdefghi" : Str))) (mCons (mOp2 gAdd (mVar 1) (mC (.str ("x" : Str)))) (mCons (mTup (mCons (mVar 1) mNil)) (mCons (mC (.str ("yes" : Str))) (mCons (mC (.str ("name" : Str))) (mCons (mC (.str ("pair" : Str))) mNil)))))))))))) mNil))))
mNext)
(mSeq (mIf (mAndT (mTruth (mOp1 (gIs "int") (mVar 1))) (mAndT (mNotT (mTruth (mOp1 (gIs "bool") (mVar 1)))) (mBool (mOp2 gGt (mCall 2 F__law_take (mCons (mVar 0) (mCons (mC (.int 3)) mNil))) (mC (.int 0))))))
(mRet (mCall 2 F__law_pick (mCons (mVar 0) (mCons (mLst (mCons (mOp2 gAdd (mVar 1) (mC (.int 1))) (mCons (mOp2 gMinus (mVar 1) (mC (.int 1))) (mCons (mOp1 gNeg (mC (.int 1))) (mCons (mC (.int 0)) (mCons (mC (.int 1)) (mCons (mC (.bool true)) (mCons (mC (.bool false)) (mCons (mOpn gStr (mCons (mVar 1) mNil)) mNil))))))))) mNil))))
mNext)
(mRet (mCall 2 F__law_pick (mCons (mVar 0) (mCons (mLst (mCons (mC .none) (mCons (mC (.int 5)) (mCons (mC (.bool true)) (mCons (mC (.str ("zzzzzzzz" : Str))) (mCons (mTup mNil) (mCons (mLst mNil) (mCons (mC (.dict [])) (mCons (mTup (mCons (mC (.str ("number" : Str))) (mCons (mC (.int 1)) mNil))) (mCons (mTup (mCons (mC (.str ("ask" : Str))) mNil)) (mCons (mTup (mCons (mC (.str ("name" : Str))) (mCons (mC (.str ("zzzzzzzz" : Str))) mNil))) (mCons (mTup (mCons (mC (.str ("part" : Str))) (mCons (mC (.int 0)) mNil))) (mCons (mTup (mCons (mC (.str ("rest" : Str))) mNil)) (mCons (mTup (mCons (mC .none) mNil)) (mCons (mOp1 gNeg (mC (.int 1))) mNil))))))))))))))) mNil)))))))
noncomputable def F__law_odd : Fn := runF 5 b__law_odd
theorem d__law_odd (T : Txt g mg) (NB : NoB mg) {f : Addr} {fd : FuncData} (F : Fun g.K "_law_odd" "_law_odd" s__law_odd f fd) : Ok g mg base (3 + 1) f fd ["draw", "part", "names"] (runF 5 (b__law_odd)) := by
  refine def_ok F sc__law_odd (by decide) fun cdv A outer s H E B hg hE hr => ?_
  subst hg
  have hK := (rfl : B.g.K = B.g.K)
  have O := (⟨rfl, rfl, rfl, rfl, rfl⟩ : On (cxOf (L2.CX B.g.P B.g.w) B.g.P B.g.w B.g.K mg base N__law_odd "_law_odd" (defScope s__law_odd) f cdv A outer s H E) B.g mg base)
  have tk : Takes (cxOf (L2.CX B.g.P B.g.w) B.g.P B.g.w B.g.K mg base N__law_odd "_law_odd" (defScope s__law_odd) f cdv A outer s H E) (fun cls d _ H => B.E cls d H) := by subst hE; exact takes_of rfl rfl rfl rfl
  exact (fs_cons (fs_if (PW.pt (f_andW (f_truth hK (f_is (c := "tuple") hK (by decide) (by rw [O.m]; exact NB.isinstance) (by rw [O.m]; exact NB.tuple) (by decide +kernel) (f_var (pv 1)))) (f_and1 (f_tcmp (gt_ok) (f_call O (c__law_take T NB) (hr.mono (by omega)) tk (fa_cons (f_var (pv 0)) (fa_cons f_int fa_nil)) rfl) f_int (nomark _)))))
(fs_cons (fs_set (i := 3) sc__law_odd.nd rfl (Or.inl rfl) (f_call O (c__law_take T NB) (hr.mono (by omega)) tk (fa_cons (f_var (pv 0)) (fa_cons (f_bin (add_ok hK) (f_blt (len_ok hK) rfl (by rw [O.m]; exact NB.len) (by decide +kernel) (fa_cons (f_var (pv 1)) fa_nil)) f_int) fa_nil)) rfl))
(fs_cons (fs_set (i := 4) sc__law_odd.nd rfl (Or.inl rfl) (f_lst (fa_cons (f_bin (add_ok hK) (f_sl hK (f_var (pv 1)) fp_none (fp_some (f_var (pv 3)))) (f_sl hK (f_var (pv 1)) (fp_some (f_bin (add_ok hK) (f_var (pv 3)) f_int)) fp_none)) (fa_cons (f_bin (add_ok hK) (f_bin (add_ok hK) (f_sl hK (f_var (pv 1)) fp_none (fp_some (f_var (pv 3)))) (f_sl hK (f_var (pv 1)) (fp_some (f_var (pv 3))) (fp_some (f_bin (add_ok hK) (f_var (pv 3)) f_int)))) (f_sl hK (f_var (pv 1)) (fp_some (f_var (pv 3))) fp_none)) (fa_cons (f_rev hK (f_var (pv 1))) (fa_cons (f_typ (T := "list") (listA_ok hK rfl) rfl (by rw [O.m]; exact NB.list) (by decide +kernel) (fa_cons (f_var (pv 1)) fa_nil)) (fa_cons (f_bin (add_ok hK) (f_var (pv 1)) (f_tup (fa_cons f_non fa_nil))) (fa_cons (f_tup fa_nil) fa_nil))))))))
(fs_one (fs_ret (f_call O (c__law_pick T NB) (hr.mono (by omega)) tk (fa_cons (f_var (pv 0)) (fa_cons (f_var (pv 4)) fa_nil)) rfl)))))
fs_nil)
(fs_cons (fs_if (PW.pt (f_andW (f_truth hK (f_is (c := "str") hK (by decide) (by rw [O.m]; exact NB.isinstance) (by rw [O.m]; exact NB.str) (by decide +kernel) (f_var (pv 1)))) (f_and1 (f_tcmp (gt_ok) (f_call O (c__law_take T NB) (hr.mono (by omega)) tk (fa_cons (f_var (pv 0)) (fa_cons f_int fa_nil)) rfl) f_int (nomark _)))))
(fs_one (fs_ret (f_call O (c__law_pick T NB) (hr.mono (by omega)) tk (fa_cons (f_var (pv 0)) (fa_cons (f_bin (add_ok hK) (f_var (pv 2)) (f_lst (fa_cons f_str (fa_cons f_str (fa_cons f_str (fa_cons f_str (fa_cons f_str (fa_cons (f_bin (add_ok hK) (f_var (pv 1)) f_str) (fa_cons (f_tup (fa_cons (f_var (pv 1)) fa_nil)) (fa_cons f_str (fa_cons f_str (fa_cons f_str fa_nil)))))))))))) fa_nil)) rfl)))
fs_nil)
(fs_cons (fs_if (PW.pt (f_andW (f_truth hK (f_is (c := "int") hK (by decide) (by rw [O.m]; exact NB.isinstance) (by rw [O.m]; exact NB.int) (by decide +kernel) (f_var (pv 1)))) (f_andW (f_tnot (f_truth hK (f_is (c := "bool") hK (by decide) (by rw [O.m]; exact NB.isinstance) (by rw [O.m]; exact NB.bool) (by decide +kernel) (f_var (pv 1))))) (f_and1 (f_tcmp (gt_ok) (f_call O (c__law_take T NB) (hr.mono (by omega)) tk (fa_cons (f_var (pv 0)) (fa_cons f_int fa_nil)) rfl) f_int (nomark _))))))
(fs_one (fs_ret (f_call O (c__law_pick T NB) (hr.mono (by omega)) tk (fa_cons (f_var (pv 0)) (fa_cons (f_lst (fa_cons (f_bin (add_ok hK) (f_var (pv 1)) f_int) (fa_cons (f_bin (sub_ok) (f_var (pv 1)) f_int) (fa_cons (f_neg f_int) (fa_cons f_int (fa_cons f_int (fa_cons f_bl (fa_cons f_bl (fa_cons (f_typ (T := "str") (str_ok) rfl (by rw [O.m]; exact NB.str) (by decide +kernel) (fa_cons (f_var (pv 1)) fa_nil)) fa_nil))))))))) fa_nil)) rfl)))
fs_nil)
(fs_one (fs_ret (f_call O (c__law_pick T NB) (hr.mono (by omega)) tk (fa_cons (f_var (pv 0)) (fa_cons (f_lst (fa_cons f_non (fa_cons f_int (fa_cons f_bl (fa_cons f_str (fa_cons (f_tup fa_nil) (fa_cons (f_lst fa_nil) (fa_cons f_dict0D (fa_cons (f_tup (fa_cons f_str (fa_cons f_int fa_nil))) (fa_cons (f_tup (fa_cons f_str fa_nil)) (fa_cons (f_tup (fa_cons f_str (fa_cons f_str fa_nil))) (fa_cons (f_tup (fa_cons f_str (fa_cons f_int fa_nil))) (fa_cons (f_tup (fa_cons f_str fa_nil)) (fa_cons (f_tup (fa_cons f_non fa_nil)) (fa_cons (f_neg f_int) fa_nil))))))))))))))) fa_nil)) rfl))))))
theorem c__law_odd (T : Txt g mg) (NB : NoB mg) : Cal g mg base "_law_odd" 4 ["draw", "part", "names"] F__law_odd :=
  T.f__law_odd.cal (fun f fd F => F.binds (ps := ["draw", "part", "names"]) fun _ _ _ _ _ _ us hl => match us, hl with | [_, _, _], _ => rfl) fun f fd F => d__law_odd T NB F
abbrev N__law_bent : List Str := ["draw", "thing", "names", "path"]
theorem sc__law_bent : FnScope N__law_bent ["draw", "thing", "names"] (defScope s__law_bent) := ⟨rfl, rfl, rfl, by decide +kernel, rfl, by decide +kernel, by decide +kernel⟩
noncomputable def b__law_bent : FM Fl :=
(mSeq (mAsg (mCall 2 F__law_pick (mCons (mVar 0) (mCons (mCall 1 F__law_paths (mCons (mVar 1) mNil)) mNil))) (gSet 3))
(mRet (mCall 3 (F__law_swapped 30) (mCons (mVar 1) (mCons (mVar 3) (mCons (mCall 3 F__law_odd (mCons (mVar 0) (mCons (mCall 2 F__law_led (mCons (mVar 1) (mCons (mVar 3) mNil))) (mCons (mVar 2) mNil)))) mNil))))))
noncomputable def F__law_bent : Fn := runF 4 b__law_bent
theorem d__law_bent (T : Txt g mg) (NB : NoB mg) {f : Addr} {fd : FuncData} (F : Fun g.K "_law_bent" "_law_bent" s__law_bent f fd) : Ok g mg base (31 + 1) f fd ["draw", "thing", "names"] (runF 4 (b__law_bent)) := by
  refine def_ok F sc__law_bent (by decide) fun cdv A outer s H E B hg hE hr => ?_
  subst hg
  have hK := (rfl : B.g.K = B.g.K)
  have O := (⟨rfl, rfl, rfl, rfl, rfl⟩ : On (cxOf (L2.CX B.g.P B.g.w) B.g.P B.g.w B.g.K mg base N__law_bent "_law_bent" (defScope s__law_bent) f cdv A outer s H E) B.g mg base)
  have tk : Takes (cxOf (L2.CX B.g.P B.g.w) B.g.P B.g.w B.g.K mg base N__law_bent "_law_bent" (defScope s__law_bent) f cdv A outer s H E) (fun cls d _ H => B.E cls d H) := by subst hE; exact takes_of rfl rfl rfl rfl
  exact (fs_cons (fs_set (i := 3) sc__law_bent.nd rfl (Or.inl rfl) (f_call O (c__law_pick T NB) (hr.mono (by omega)) tk (fa_cons (f_var (pv 0)) (fa_cons (f_call O (c__law_paths T NB) (hr.mono (by omega)) tk (fa_cons (f_var (pv 1)) fa_nil) rfl) fa_nil)) rfl))
(fs_one (fs_ret (f_call O (c__law_swapped T NB 30) (hr.mono (by omega)) tk (fa_cons (f_var (pv 1)) (fa_cons (f_var (pv 3)) (fa_cons (f_call O (c__law_odd T NB) (hr.mono (by omega)) tk (fa_cons (f_var (pv 0)) (fa_cons (f_call O (c__law_led T NB) (hr.mono (by omega)) tk (fa_cons (f_var (pv 1)) (fa_cons (f_var (pv 3)) fa_nil)) rfl) (fa_cons (f_var (pv 2)) fa_nil))) rfl) fa_nil))) rfl))))
theorem c__law_bent (T : Txt g mg) (NB : NoB mg) : Cal g mg base "_law_bent" 32 ["draw", "thing", "names"] F__law_bent :=
  T.f__law_bent.cal (fun f fd F => F.binds (ps := ["draw", "thing", "names"]) fun _ _ _ _ _ _ us hl => match us, hl with | [_, _, _], _ => rfl) fun f fd F => d__law_bent T NB F
abbrev N__law_is_whole : List Str := ["thing"]
theorem sc__law_is_whole : FnScope N__law_is_whole ["thing"] (defScope s__law_is_whole) := ⟨rfl, rfl, rfl, by decide +kernel, rfl, by decide +kernel, by decide +kernel⟩
noncomputable def b__law_is_whole : FM Fl :=
(mRet (mAndV (mOp1 (gIs "int") (mVar 0)) (mNotV (mOp1 (gIs "bool") (mVar 0)))))
noncomputable def F__law_is_whole : Fn := runF 1 b__law_is_whole
theorem d__law_is_whole (T : Txt g mg) (NB : NoB mg) {f : Addr} {fd : FuncData} (F : Fun g.K "_law_is_whole" "_law_is_whole" s__law_is_whole f fd) : Ok g mg base (0 + 1) f fd ["thing"] (runF 1 (b__law_is_whole)) := by
  refine def_ok F sc__law_is_whole (by decide) fun cdv A outer s H E B hg hE hr => ?_
  subst hg
  have hK := (rfl : B.g.K = B.g.K)
  have O := (⟨rfl, rfl, rfl, rfl, rfl⟩ : On (cxOf (L2.CX B.g.P B.g.w) B.g.P B.g.w B.g.K mg base N__law_is_whole "_law_is_whole" (defScope s__law_is_whole) f cdv A outer s H E) B.g mg base)
  have tk : Takes (cxOf (L2.CX B.g.P B.g.w) B.g.P B.g.w B.g.K mg base N__law_is_whole "_law_is_whole" (defScope s__law_is_whole) f cdv A outer s H E) (fun cls d _ H => B.E cls d H) := by subst hE; exact takes_of rfl rfl rfl rfl
  exact (fs_one (fs_ret (f_andV hK (f_is (c := "int") hK (by decide) (by rw [O.m]; exact NB.isinstance) (by rw [O.m]; exact NB.int) (by decide +kernel) (f_var (pv 0))) (f_andV1 (f_notV hK (f_is (c := "bool") hK (by decide) (by rw [O.m]; exact NB.isinstance) (by rw [O.m]; exact NB.bool) (by decide +kernel) (f_var (pv 0))))))))
theorem c__law_is_whole (T : Txt g mg) (NB : NoB mg) : Cal g mg base "_law_is_whole" 1 ["thing"] F__law_is_whole :=
  T.f__law_is_whole.cal (fun f fd F => F.binds (ps := ["thing"]) fun _ _ _ _ _ _ us hl => match us, hl with | [_], _ => rfl) fun f fd F => d__law_is_whole T NB F
abbrev N__law_is_name : List Str := ["thing", "letter"]
theorem sc__law_is_name : FnScope N__law_is_name ["thing"] (defScope s__law_is_name) := ⟨rfl, rfl, rfl, by decide +kernel, rfl, by decide +kernel, by decide +kernel⟩
noncomputable def b__law_is_name : FM Fl :=
(mSeq (mIf (mOrT (mNotT (mTruth (mOp1 (gIs "str") (mVar 0)))) (mOrT (mNotT (mBool (mChain gLe gLe (mC (.int 1)) (mOpn gLen (mCons (mVar 0) mNil)) (mC (.int 8))))) (mBool (mOp2 (gInA false) (mVar 0) (mCall 0 F__law_reserved mNil)))))
(mRet (mC (.bool false)))
mNext)
(mRet (mOp2 gEqA (mComp (mIt (mVar 0)) (.nm 1) [1] (mBool (mOp2 (gInA true) (mVar 1) (mC (.str ("abcdefghijklmnopqrstuvwxyz" : Str))))) (mVar 1)) (mLst mNil))))
noncomputable def F__law_is_name : Fn := runF 2 b__law_is_name
theorem d__law_is_name (T : Txt g mg) (NB : NoB mg) {f : Addr} {fd : FuncData} (F : Fun g.K "_law_is_name" "_law_is_name" s__law_is_name f fd) : Ok g mg base (1 + 1) f fd ["thing"] (runF 2 (b__law_is_name)) := by
  refine def_ok F sc__law_is_name (by decide) fun cdv A outer s H E B hg hE hr => ?_
  subst hg
  have hK := (rfl : B.g.K = B.g.K)
  have O := (⟨rfl, rfl, rfl, rfl, rfl⟩ : On (cxOf (L2.CX B.g.P B.g.w) B.g.P B.g.w B.g.K mg base N__law_is_name "_law_is_name" (defScope s__law_is_name) f cdv A outer s H E) B.g mg base)
  have tk : Takes (cxOf (L2.CX B.g.P B.g.w) B.g.P B.g.w B.g.K mg base N__law_is_name "_law_is_name" (defScope s__law_is_name) f cdv A outer s H E) (fun cls d _ H => B.E cls d H) := by subst hE; exact takes_of rfl rfl rfl rfl
  exact (fs_cons (fs_if (PW.pt (f_orW (f_tnot (f_truth hK (f_is (c := "str") hK (by decide) (by rw [O.m]; exact NB.isinstance) (by rw [O.m]; exact NB.str) (by decide +kernel) (f_var (pv 0))))) (f_orW (f_tnot (f_tchain (le_ok) (le_ok) f_int (f_blt (len_ok hK) rfl (by rw [O.m]; exact NB.len) (by decide +kernel) (fa_cons (f_var (pv 0)) fa_nil)) f_int)) (f_or1 (f_tcmp (inA_ok O (hu65 hr)) (f_var (pv 0)) (f_call0 O (c__law_reserved T NB) (hr.mono (by omega)) tk rfl) rfl)))))
(fs_one (fs_ret f_bl))
fs_nil)
(fs_one (fs_ret (f_cmp (eqA_ok hK (hu64 hr)) (f_lc (own := [(("letter" : Str), 1)]) hK rfl sc__law_is_name.nd (fi_seq hK (f_var (pv 0))) (blkOk_by (N := N__law_is_name) (sc := defScope s__law_is_name) (by decide +kernel)) (by decide) (fun _ _ _ _ _ => pg_name (i := 1) sc__law_is_name.nd rfl (Or.inl rfl)) (fun D1 _ _ _ _ _ => fts_one (f_tcmp (notInA_ok (onc D1 O) (hu65 hr)) (f_var (pv 1)) f_str rfl)) (fun D1 _ _ _ _ _ => (f_var (pv 1)))) (f_lst fa_nil) (nomark _)))))
theorem c__law_is_name (T : Txt g mg) (NB : NoB mg) : Cal g mg base "_law_is_name" 2 ["thing"] F__law_is_name :=
  T.f__law_is_name.cal (fun f fd F => F.binds (ps := ["thing"]) fun _ _ _ _ _ _ us hl => match us, hl with | [_], _ => rfl) fun f fd F => d__law_is_name T NB F
abbrev N__law_grafted : List Str := ["tree", "yes", "no"]
theorem sc__law_grafted : FnScope N__law_grafted ["tree", "yes", "no"] (defScope s__law_grafted) := ⟨rfl, rfl, rfl, by decide +kernel, rfl, by decide +kernel, by decide +kernel⟩
noncomputable def b__law_grafted (R__law_grafted : Fn) : FM Fl :=
(mSeq (mIf (mBool (mOp2 (gInA false) (mOp2 gIxA (mVar 0) (mC (.int 0))) (mLst (mCons (mC (.str ("yes" : Str))) (mCons (mC (.str ("no" : Str))) mNil)))))
(mRet (mIfE (mBool (mOp2 gEqA (mOp2 gIxA (mVar 0) (mC (.int 0))) (mC (.str ("yes" : Str))))) (mVar 1) (mVar 2)))
mNext)
(mSeq (mIf (mBool (mOp2 gEqA (mOp2 gIxA (mVar 0) (mC (.int 0))) (mC (.str ("shows" : Str)))))
(mRet (mTup (mCons (mC (.str ("shows" : Str))) (mCons (mOp2 gIxA (mVar 0) (mC (.int 1))) (mCons (mCall 3 R__law_grafted (mCons (mOp2 gIxA (mVar 0) (mC (.int 2))) (mCons (mVar 1) (mCons (mVar 2) mNil)))) mNil)))))
mNext)
(mRet (mIfE (mBool (mOp2 gNe (mOp2 gIxA (mVar 0) (mC (.int 0))) (mC (.str ("does" : Str))))) (mVar 0) (mTup (mCons (mC (.str ("does" : Str))) (mCons (mOp2 gIxA (mVar 0) (mC (.int 1))) (mCons (mCall 3 R__law_grafted (mCons (mOp2 gIxA (mVar 0) (mC (.int 2))) (mCons (mVar 1) (mCons (mVar 2) mNil)))) (mCons (mCall 3 R__law_grafted (mCons (mOp2 gIxA (mVar 0) (mC (.int 3))) (mCons (mVar 1) (mCons (mVar 2) mNil)))) mNil)))))))))
noncomputable def F__law_grafted : Nat → Fn
  | 0 => noFn
  | n + 1 => runF 3 (b__law_grafted (F__law_grafted n))
theorem d__law_grafted (T : Txt g mg) (NB : NoB mg) {R__law_grafted : Fn} {k : Nat} (hk : 0 ≤ k) (hc__law_grafted : Cal g mg base "_law_grafted" k ["tree", "yes", "no"] R__law_grafted) {f : Addr} {fd : FuncData} (F : Fun g.K "_law_grafted" "_law_grafted" s__law_grafted f fd) : Ok g mg base (k + 1) f fd ["tree", "yes", "no"] (runF 3 (b__law_grafted R__law_grafted)) := by
  refine def_ok F sc__law_grafted (by decide) fun cdv A outer s H E B hg hE hr => ?_
  subst hg
  have hK := (rfl : B.g.K = B.g.K)
  have O := (⟨rfl, rfl, rfl, rfl, rfl⟩ : On (cxOf (L2.CX B.g.P B.g.w) B.g.P B.g.w B.g.K mg base N__law_grafted "_law_grafted" (defScope s__law_grafted) f cdv A outer s H E) B.g mg base)
  have tk : Takes (cxOf (L2.CX B.g.P B.g.w) B.g.P B.g.w B.g.K mg base N__law_grafted "_law_grafted" (defScope s__law_grafted) f cdv A outer s H E) (fun cls d _ H => B.E cls d H) := by subst hE; exact takes_of rfl rfl rfl rfl
  exact (fs_cons (fs_if (f_tcmp (inA_ok O (hu65 hr)) (f_ix (ixA_ok O (hu64 hr)) (f_var (pv 0)) f_int (fun _ _ => rfl)) (f_lst (fa_cons f_str (fa_cons f_str fa_nil))) rfl)
(fs_one (fs_ret (f_ifE (f_tcmp (eqA_ok hK (hu64 hr)) (f_ix (ixA_ok O (hu64 hr)) (f_var (pv 0)) f_int (fun _ _ => rfl)) f_str (nomark _)) (f_var (pv 1)) (f_var (pv 2)))))
fs_nil)
(fs_cons (fs_if (f_tcmp (eqA_ok hK (hu64 hr)) (f_ix (ixA_ok O (hu64 hr)) (f_var (pv 0)) f_int (fun _ _ => rfl)) f_str (nomark _))
(fs_one (fs_ret (f_tup (fa_cons f_str (fa_cons (f_ix (ixA_ok O (hu64 hr)) (f_var (pv 0)) f_int (fun _ _ => rfl)) (fa_cons (f_call O hc__law_grafted (hr.mono (by omega)) tk (fa_cons (f_ix (ixA_ok O (hu64 hr)) (f_var (pv 0)) f_int (fun _ _ => rfl)) (fa_cons (f_var (pv 1)) (fa_cons (f_var (pv 2)) fa_nil))) rfl) fa_nil))))))
fs_nil)
(fs_one (fs_ret (f_ifE (f_tcmp (ne_ok hK (hu64 hr)) (f_ix (ixA_ok O (hu64 hr)) (f_var (pv 0)) f_int (fun _ _ => rfl)) f_str (nomark _)) (f_var (pv 0)) (f_tup (fa_cons f_str (fa_cons (f_ix (ixA_ok O (hu64 hr)) (f_var (pv 0)) f_int (fun _ _ => rfl)) (fa_cons (f_call O hc__law_grafted (hr.mono (by omega)) tk (fa_cons (f_ix (ixA_ok O (hu64 hr)) (f_var (pv 0)) f_int (fun _ _ => rfl)) (fa_cons (f_var (pv 1)) (fa_cons (f_var (pv 2)) fa_nil))) rfl) (fa_cons (f_call O hc__law_grafted (hr.mono (by omega)) tk (fa_cons (f_ix (ixA_ok O (hu64 hr)) (f_var (pv 0)) f_int (fun _ _ => rfl)) (fa_cons (f_var (pv 1)) (fa_cons (f_var (pv 2)) fa_nil))) rfl) fa_nil))))))))))
theorem rec__law_grafted (T : Txt g mg) (NB : NoB mg) : ∀ n : Nat, (Cal g mg base "_law_grafted" (1 + 1 * n) ["tree", "yes", "no"] (F__law_grafted n))
  | 0 => T.f__law_grafted.cal (fun f fd F => F.binds (ps := ["tree", "yes", "no"]) fun _ _ _ _ _ _ us hl => match us, hl with | [_, _, _], _ => rfl) fun f fd F => no_ok (k := 0) F sc__law_grafted
  | n + 1 => by
    have hc__law_grafted := rec__law_grafted T NB n
    exact T.f__law_grafted.cal (fun f fd F => F.binds (ps := ["tree", "yes", "no"]) fun _ _ _ _ _ _ us hl => match us, hl with | [_, _, _], _ => rfl) fun f fd F => d__law_grafted T NB (k := 1 + 1 * n) (by omega) hc__law_grafted F
theorem c__law_grafted (T : Txt g mg) (NB : NoB mg) (n : Nat) : Cal g mg base "_law_grafted" (1 + 1 * n) ["tree", "yes", "no"] (F__law_grafted n) := (rec__law_grafted T NB n)
abbrev N__law_is_tree : List Str := ["parts", "thing"]
theorem sc__law_is_tree : FnScope N__law_is_tree ["parts", "thing"] (defScope s__law_is_tree) := ⟨rfl, rfl, rfl, by decide +kernel, rfl, by decide +kernel, by decide +kernel⟩
noncomputable def b__law_is_tree (R__law_is_tree : Fn) : FM Fl :=
(mSeq (mIf (mOrT (mNotT (mTruth (mOp1 (gIs "tuple") (mVar 1)))) (mOrT (mBool (mOp2 gEqA (mVar 1) (mTup mNil))) (mNotT (mTruth (mOp1 (gIs "str") (mOp2 gIxA (mVar 1) (mC (.int 0))))))))
(mRet (mC (.bool false)))
mNext)
(mSeq (mIf (mBool (mOp2 (gInA false) (mOp2 gIxA (mVar 1) (mC (.int 0))) (mLst (mCons (mC (.str ("yes" : Str))) (mCons (mC (.str ("no" : Str))) mNil)))))
(mRet (mOp2 gEqA (mOpn gLen (mCons (mVar 1) mNil)) (mC (.int 1))))
mNext)
(mSeq (mIf (mBool (mOp2 gEqA (mOp2 gIxA (mVar 1) (mC (.int 0))) (mC (.str ("fails" : Str)))))
(mRet (mAndV (mOp2 gEqA (mOpn gLen (mCons (mVar 1) mNil)) (mC (.int 2))) (mCall 1 F__law_is_name (mCons (mOp2 gIxA (mVar 1) (mC (.int 1))) mNil))))
mNext)
(mSeq (mIf (mOrT (mBool (mOp2 (gInA true) (mOp2 gIxA (mVar 1) (mC (.int 0))) (mLst (mCons (mC (.str ("shows" : Str))) (mCons (mC (.str ("does" : Str))) mNil))))) (mOrT (mBool (mOp2 gNe (mOpn gLen (mCons (mVar 1) mNil)) (mIfE (mBool (mOp2 gEqA (mOp2 gIxA (mVar 1) (mC (.int 0))) (mC (.str ("shows" : Str))))) (mC (.int 3)) (mC (.int 4))))) (mNotT (mTruth (mCall 1 F__law_is_whole (mCons (mOp2 gIxA (mVar 1) (mC (.int 1))) mNil))))))
(mRet (mC (.bool false)))
mNext)
(mSeq (mIf (mNotT (mBool (mChain gLe gLt (mC (.int 0)) (mOp2 gIxA (mVar 1) (mC (.int 1))) (mIfE (mBool (mOp2 gEqA (mOp2 gIxA (mVar 1) (mC (.int 0))) (mC (.str ("shows" : Str))))) (mC (.int 8)) (mVar 0)))))
(mRet (mC (.bool false)))
mNext)
(mRet (mAndV (mCall 2 R__law_is_tree (mCons (mVar 0) (mCons (mOp2 gIxA (mVar 1) (mC (.int 2))) mNil))) (mOrV (mOp2 gEqA (mOp2 gIxA (mVar 1) (mC (.int 0))) (mC (.str ("shows" : Str)))) (mCall 2 R__law_is_tree (mCons (mVar 0) (mCons (mOp2 gIxA (mVar 1) (mC (.int 3))) mNil)))))))))))
noncomputable def F__law_is_tree : Nat → Fn
  | 0 => noFn
  | n + 1 => runF 2 (b__law_is_tree (F__law_is_tree n))
theorem d__law_is_tree (T : Txt g mg) (NB : NoB mg) {R__law_is_tree : Fn} {k : Nat} (hk : 2 ≤ k) (hc__law_is_tree : Cal g mg base "_law_is_tree" k ["parts", "thing"] R__law_is_tree) {f : Addr} {fd : FuncData} (F : Fun g.K "_law_is_tree" "_law_is_tree" s__law_is_tree f fd) : Ok g mg base (k + 1) f fd ["parts", "thing"] (runF 2 (b__law_is_tree R__law_is_tree)) := by
  refine def_ok F sc__law_is_tree (by decide) fun cdv A outer s H E B hg hE hr => ?_
  subst hg
  have hK := (rfl : B.g.K = B.g.K)
  have O := (⟨rfl, rfl, rfl, rfl, rfl⟩ : On (cxOf (L2.CX B.g.P B.g.w) B.g.P B.g.w B.g.K mg base N__law_is_tree "_law_is_tree" (defScope s__law_is_tree) f cdv A outer s H E) B.g mg base)
  have tk : Takes (cxOf (L2.CX B.g.P B.g.w) B.g.P B.g.w B.g.K mg base N__law_is_tree "_law_is_tree" (defScope s__law_is_tree) f cdv A outer s H E) (fun cls d _ H => B.E cls d H) := by subst hE; exact takes_of rfl rfl rfl rfl
  exact (fs_cons (fs_if (PW.pt (f_orW (f_tnot (f_truth hK (f_is (c := "tuple") hK (by decide) (by rw [O.m]; exact NB.isinstance) (by rw [O.m]; exact NB.tuple) (by decide +kernel) (f_var (pv 1))))) (f_orW (f_tcmp (eqA_ok hK (hu64 hr)) (f_var (pv 1)) (f_tup fa_nil) (nomark _)) (f_or1 (f_tnot (f_truth hK (f_is (c := "str") hK (by decide) (by rw [O.m]; exact NB.isinstance) (by rw [O.m]; exact NB.str) (by decide +kernel) (f_ix (ixA_ok O (hu64 hr)) (f_var (pv 1)) f_int (fun _ _ => rfl)))))))))
(fs_one (fs_ret f_bl))
fs_nil)
(fs_cons (fs_if (f_tcmp (inA_ok O (hu65 hr)) (f_ix (ixA_ok O (hu64 hr)) (f_var (pv 1)) f_int (fun _ _ => rfl)) (f_lst (fa_cons f_str (fa_cons f_str fa_nil))) rfl)
(fs_one (fs_ret (f_cmp (eqA_ok hK (hu64 hr)) (f_blt (len_ok hK) rfl (by rw [O.m]; exact NB.len) (by decide +kernel) (fa_cons (f_var (pv 1)) fa_nil)) f_int (nomark _))))
fs_nil)
(fs_cons (fs_if (f_tcmp (eqA_ok hK (hu64 hr)) (f_ix (ixA_ok O (hu64 hr)) (f_var (pv 1)) f_int (fun _ _ => rfl)) f_str (nomark _))
(fs_one (fs_ret (f_andV hK (f_cmp (eqA_ok hK (hu64 hr)) (f_blt (len_ok hK) rfl (by rw [O.m]; exact NB.len) (by decide +kernel) (fa_cons (f_var (pv 1)) fa_nil)) f_int (nomark _)) (f_andV1 (f_call O (c__law_is_name T NB) (hr.mono (by omega)) tk (fa_cons (f_ix (ixA_ok O (hu64 hr)) (f_var (pv 1)) f_int (fun _ _ => rfl)) fa_nil) rfl)))))
fs_nil)
(fs_cons (fs_if (PW.pt (f_orW (f_tcmp (notInA_ok O (hu65 hr)) (f_ix (ixA_ok O (hu64 hr)) (f_var (pv 1)) f_int (fun _ _ => rfl)) (f_lst (fa_cons f_str (fa_cons f_str fa_nil))) rfl) (f_orW (f_tcmp (ne_ok hK (hu64 hr)) (f_blt (len_ok hK) rfl (by rw [O.m]; exact NB.len) (by decide +kernel) (fa_cons (f_var (pv 1)) fa_nil)) (f_ifE (f_tcmp (eqA_ok hK (hu64 hr)) (f_ix (ixA_ok O (hu64 hr)) (f_var (pv 1)) f_int (fun _ _ => rfl)) f_str (nomark _)) f_int f_int) (nomark _)) (f_or1 (f_tnot (f_truth hK (f_call O (c__law_is_whole T NB) (hr.mono (by omega)) tk (fa_cons (f_ix (ixA_ok O (hu64 hr)) (f_var (pv 1)) f_int (fun _ _ => rfl)) fa_nil) rfl)))))))
(fs_one (fs_ret f_bl))
fs_nil)
(fs_cons (fs_if (f_tnot (f_tchain (le_ok) (lt_ok) f_int (f_ix (ixA_ok O (hu64 hr)) (f_var (pv 1)) f_int (fun _ _ => rfl)) (f_ifE (f_tcmp (eqA_ok hK (hu64 hr)) (f_ix (ixA_ok O (hu64 hr)) (f_var (pv 1)) f_int (fun _ _ => rfl)) f_str (nomark _)) f_int (f_var (pv 0)))))
(fs_one (fs_ret f_bl))
fs_nil)
(fs_one (fs_ret (f_andV hK (f_call O hc__law_is_tree (hr.mono (by omega)) tk (fa_cons (f_var (pv 0)) (fa_cons (f_ix (ixA_ok O (hu64 hr)) (f_var (pv 1)) f_int (fun _ _ => rfl)) fa_nil)) rfl) (f_andV1 (f_orV hK (f_cmp (eqA_ok hK (hu64 hr)) (f_ix (ixA_ok O (hu64 hr)) (f_var (pv 1)) f_int (fun _ _ => rfl)) f_str (nomark _)) (f_andV1 (f_call O hc__law_is_tree (hr.mono (by omega)) tk (fa_cons (f_var (pv 0)) (fa_cons (f_ix (ixA_ok O (hu64 hr)) (f_var (pv 1)) f_int (fun _ _ => rfl)) fa_nil)) rfl))))))))))))
theorem rec__law_is_tree (T : Txt g mg) (NB : NoB mg) : ∀ n : Nat, (Cal g mg base "_law_is_tree" (2 + 1 * n) ["parts", "thing"] (F__law_is_tree n))
  | 0 => T.f__law_is_tree.cal (fun f fd F => F.binds (ps := ["parts", "thing"]) fun _ _ _ _ _ _ us hl => match us, hl with | [_, _], _ => rfl) fun f fd F => no_ok (k := 1) F sc__law_is_tree
  | n + 1 => by
    have hc__law_is_tree := rec__law_is_tree T NB n
    exact T.f__law_is_tree.cal (fun f fd F => F.binds (ps := ["parts", "thing"]) fun _ _ _ _ _ _ us hl => match us, hl with | [_, _], _ => rfl) fun f fd F => d__law_is_tree T NB (k := 2 + 1 * n) (by omega) hc__law_is_tree F
theorem c__law_is_tree (T : Txt g mg) (NB : NoB mg) (n : Nat) : Cal g mg base "_law_is_tree" (2 + 1 * n) ["parts", "thing"] (F__law_is_tree n) := (rec__law_is_tree T NB n)
abbrev N__law_all_within : List Str := ["tree", "found", "part"]
theorem sc__law_all_within : FnScope N__law_all_within ["tree"] (defScope s__law_all_within) := ⟨rfl, rfl, rfl, by decide +kernel, rfl, by decide +kernel, by decide +kernel⟩
noncomputable def b__law_all_within (R__law_all_within : Fn) : FM Fl :=
(mSeq (mAsg (mLst (mCons (mVar 0) mNil)) (gSet 1))
(mSeq (mFor (mIt (mSl (mVar 0) (mPart (mC (.int 1))) mNoP)) (gSet 2)
(mIf (mTruth (mOp1 (gIs "tuple") (mVar 2)))
(mAsg (mOp2 gAdd (mVar 1) (mCall 1 R__law_all_within (mCons (mVar 2) mNil))) (gSet 1))
mNext))
(mRet (mVar 1))))
noncomputable def F__law_all_within : Nat → Fn
  | 0 => noFn
  | n + 1 => runF 3 (b__law_all_within (F__law_all_within n))
theorem d__law_all_within (T : Txt g mg) (NB : NoB mg) {R__law_all_within : Fn} {k : Nat} (hk : 0 ≤ k) (hc__law_all_within : Cal g mg base "_law_all_within" k ["tree"] R__law_all_within) {f : Addr} {fd : FuncData} (F : Fun g.K "_law_all_within" "_law_all_within" s__law_all_within f fd) : Ok g mg base (k + 1) f fd ["tree"] (runF 3 (b__law_all_within R__law_all_within)) := by
  refine def_ok F sc__law_all_within (by decide) fun cdv A outer s H E B hg hE hr => ?_
  subst hg
  have hK := (rfl : B.g.K = B.g.K)
  have O := (⟨rfl, rfl, rfl, rfl, rfl⟩ : On (cxOf (L2.CX B.g.P B.g.w) B.g.P B.g.w B.g.K mg base N__law_all_within "_law_all_within" (defScope s__law_all_within) f cdv A outer s H E) B.g mg base)
  have tk : Takes (cxOf (L2.CX B.g.P B.g.w) B.g.P B.g.w B.g.K mg base N__law_all_within "_law_all_within" (defScope s__law_all_within) f cdv A outer s H E) (fun cls d _ H => B.E cls d H) := by subst hE; exact takes_of rfl rfl rfl rfl
  exact (fs_cons (fs_set (i := 1) sc__law_all_within.nd rfl (Or.inl rfl) (f_lst (fa_cons (f_var (pv 0)) fa_nil)))
(fs_cons (fs_for (passes_of rfl) rfl (fi_seq hK (f_sl hK (f_var (pv 0)) (fp_some f_int) fp_none)) (fg_name (pg_name (i := 2) sc__law_all_within.nd rfl (Or.inl rfl)))
(fs_one (fs_if (f_truth hK (f_is (c := "tuple") hK (by decide) (by rw [O.m]; exact NB.isinstance) (by rw [O.m]; exact NB.tuple) (by decide +kernel) (f_var (pv 2))))
(fs_one (fs_set (i := 1) sc__law_all_within.nd rfl (Or.inl rfl) (f_bin (add_ok hK) (f_var (pv 1)) (f_call O hc__law_all_within (hr.mono (by omega)) tk (fa_cons (f_var (pv 2)) fa_nil) rfl))))
fs_nil)))
(fs_one (fs_ret (f_var (pv 1))))))
theorem rec__law_all_within (T : Txt g mg) (NB : NoB mg) : ∀ n : Nat, (Cal g mg base "_law_all_within" (1 + 1 * n) ["tree"] (F__law_all_within n))
  | 0 => T.f__law_all_within.cal (fun f fd F => F.binds (ps := ["tree"]) fun _ _ _ _ _ _ us hl => match us, hl with | [_], _ => rfl) fun f fd F => no_ok (k := 0) F sc__law_all_within
  | n + 1 => by
    have hc__law_all_within := rec__law_all_within T NB n
    exact T.f__law_all_within.cal (fun f fd F => F.binds (ps := ["tree"]) fun _ _ _ _ _ _ us hl => match us, hl with | [_], _ => rfl) fun f fd F => d__law_all_within T NB (k := 1 + 1 * n) (by omega) hc__law_all_within F
theorem c__law_all_within (T : Txt g mg) (NB : NoB mg) (n : Nat) : Cal g mg base "_law_all_within" (1 + 1 * n) ["tree"] (F__law_all_within n) := (rec__law_all_within T NB n)
abbrev N__law_becomes : List Str := ["cut", "tree", "ends"]
theorem sc__law_becomes : FnScope N__law_becomes ["cut", "tree", "ends"] (defScope s__law_becomes) := ⟨rfl, rfl, rfl, by decide +kernel, rfl, by decide +kernel, by decide +kernel⟩
noncomputable def b__law_becomes (R__law_becomes : Fn) : FM Fl :=
(mSeq (mIf (mBool (mOp2 gEqA (mOp2 gIxA (mVar 0) (mC (.int 0))) (mC (.str ("wants" : Str)))))
(mRet (mC (.bool true)))
mNext)
(mSeq (mIf (mBool (mOp2 (gInA false) (mOp2 gIxA (mVar 0) (mC (.int 0))) (mLst (mCons (mC (.str ("yes" : Str))) (mCons (mC (.str ("no" : Str))) mNil)))))
(mSeq (mIf (mBool (mOp2 (gInA true) (mOp2 gIxA (mVar 0) (mC (.int 0))) (mVar 2)))
(mAsg (mVar 1) (gSubF stAny (mVar 2) (mOp2 gIxA (mVar 0) (mC (.int 0)))))
mNext)
(mRet (mOp2 gEqA (mOp2 gIxA (mVar 2) (mOp2 gIxA (mVar 0) (mC (.int 0)))) (mVar 1))))
mNext)
(mSeq (mIf (mOrT (mBool (mOp2 gNe (mOp2 gIxA (mVar 0) (mC (.int 0))) (mOp2 gIxA (mVar 1) (mC (.int 0))))) (mOrT (mBool (mOp2 gEqA (mOp2 gIxA (mVar 0) (mC (.int 0))) (mC (.str ("fails" : Str))))) (mBool (mOp2 gNe (mOp2 gIxA (mVar 0) (mC (.int 1))) (mOp2 gIxA (mVar 1) (mC (.int 1)))))))
(mRet (mOp2 gEqA (mVar 0) (mVar 1)))
mNext)
(mRet (mAndV (mCall 3 R__law_becomes (mCons (mOp2 gIxA (mVar 0) (mC (.int 2))) (mCons (mOp2 gIxA (mVar 1) (mC (.int 2))) (mCons (mVar 2) mNil)))) (mOrV (mOp2 gEqA (mOp2 gIxA (mVar 0) (mC (.int 0))) (mC (.str ("shows" : Str)))) (mCall 3 R__law_becomes (mCons (mOp2 gIxA (mVar 0) (mC (.int 3))) (mCons (mOp2 gIxA (mVar 1) (mC (.int 3))) (mCons (mVar 2) mNil))))))))))
noncomputable def F__law_becomes : Nat → Fn
  | 0 => noFn
  | n + 1 => runF 3 (b__law_becomes (F__law_becomes n))
theorem d__law_becomes (T : Txt g mg) (NB : NoB mg) {R__law_becomes : Fn} {k : Nat} (hk : 0 ≤ k) (hc__law_becomes : Cal g mg base "_law_becomes" k ["cut", "tree", "ends"] R__law_becomes) {f : Addr} {fd : FuncData} (F : Fun g.K "_law_becomes" "_law_becomes" s__law_becomes f fd) : Ok g mg base (k + 1) f fd ["cut", "tree", "ends"] (runF 3 (b__law_becomes R__law_becomes)) := by
  refine def_ok F sc__law_becomes (by decide) fun cdv A outer s H E B hg hE hr => ?_
  subst hg
  have hK := (rfl : B.g.K = B.g.K)
  have O := (⟨rfl, rfl, rfl, rfl, rfl⟩ : On (cxOf (L2.CX B.g.P B.g.w) B.g.P B.g.w B.g.K mg base N__law_becomes "_law_becomes" (defScope s__law_becomes) f cdv A outer s H E) B.g mg base)
  have tk : Takes (cxOf (L2.CX B.g.P B.g.w) B.g.P B.g.w B.g.K mg base N__law_becomes "_law_becomes" (defScope s__law_becomes) f cdv A outer s H E) (fun cls d _ H => B.E cls d H) := by subst hE; exact takes_of rfl rfl rfl rfl
  exact (fs_cons (fs_if (f_tcmp (eqA_ok hK (hu64 hr)) (f_ix (ixA_ok O (hu64 hr)) (f_var (pv 0)) f_int (fun _ _ => rfl)) f_str (nomark _))
(fs_one (fs_ret f_bl))
fs_nil)
(fs_cons (fs_if (f_tcmp (inA_ok O (hu65 hr)) (f_ix (ixA_ok O (hu64 hr)) (f_var (pv 0)) f_int (fun _ _ => rfl)) (f_lst (fa_cons f_str (fa_cons f_str fa_nil))) rfl)
(fs_cons (fs_if (f_tcmp (notInA_ok O (hu65 hr)) (f_ix (ixA_ok O (hu64 hr)) (f_var (pv 0)) f_int (fun _ _ => rfl)) (f_var (pv 2)) rfl)
(fs_one (fs_asg (f_var (pv 1)) (fg_sub (f_var (pv 2)) (f_ix (ixA_ok O (hu64 hr)) (f_var (pv 0)) f_int (fun _ _ => rfl)) (setA_ok O (hu64 hr)) (pg_sub (f_var (pv 2)) (f_ix (ixA_ok O (hu64 hr)) (f_var (pv 0)) f_int (fun _ _ => rfl)) (setA_ok O (hu64 hr))))))
fs_nil)
(fs_one (fs_ret (f_cmp (eqA_ok hK (hu64 hr)) (f_ix (ixA_ok O (hu64 hr)) (f_var (pv 2)) (f_ix (ixA_ok O (hu64 hr)) (f_var (pv 0)) f_int (fun _ _ => rfl)) (fun _ _ => rfl)) (f_var (pv 1)) (nomark _)))))
fs_nil)
(fs_cons (fs_if (PW.pt (f_orW (f_tcmp (ne_ok hK (hu64 hr)) (f_ix (ixA_ok O (hu64 hr)) (f_var (pv 0)) f_int (fun _ _ => rfl)) (f_ix (ixA_ok O (hu64 hr)) (f_var (pv 1)) f_int (fun _ _ => rfl)) (nomark _)) (f_orW (f_tcmp (eqA_ok hK (hu64 hr)) (f_ix (ixA_ok O (hu64 hr)) (f_var (pv 0)) f_int (fun _ _ => rfl)) f_str (nomark _)) (f_or1 (f_tcmp (ne_ok hK (hu64 hr)) (f_ix (ixA_ok O (hu64 hr)) (f_var (pv 0)) f_int (fun _ _ => rfl)) (f_ix (ixA_ok O (hu64 hr)) (f_var (pv 1)) f_int (fun _ _ => rfl)) (nomark _))))))
(fs_one (fs_ret (f_cmp (eqA_ok hK (hu64 hr)) (f_var (pv 0)) (f_var (pv 1)) (nomark _))))
fs_nil)
(fs_one (fs_ret (f_andV hK (f_call O hc__law_becomes (hr.mono (by omega)) tk (fa_cons (f_ix (ixA_ok O (hu64 hr)) (f_var (pv 0)) f_int (fun _ _ => rfl)) (fa_cons (f_ix (ixA_ok O (hu64 hr)) (f_var (pv 1)) f_int (fun _ _ => rfl)) (fa_cons (f_var (pv 2)) fa_nil))) rfl) (f_andV1 (f_orV hK (f_cmp (eqA_ok hK (hu64 hr)) (f_ix (ixA_ok O (hu64 hr)) (f_var (pv 0)) f_int (fun _ _ => rfl)) f_str (nomark _)) (f_andV1 (f_call O hc__law_becomes (hr.mono (by omega)) tk (fa_cons (f_ix (ixA_ok O (hu64 hr)) (f_var (pv 0)) f_int (fun _ _ => rfl)) (fa_cons (f_ix (ixA_ok O (hu64 hr)) (f_var (pv 1)) f_int (fun _ _ => rfl)) (fa_cons (f_var (pv 2)) fa_nil))) rfl))))))))))
theorem rec__law_becomes (T : Txt g mg) (NB : NoB mg) : ∀ n : Nat, (Cal g mg base "_law_becomes" (1 + 1 * n) ["cut", "tree", "ends"] (F__law_becomes n))
  | 0 => T.f__law_becomes.cal (fun f fd F => F.binds (ps := ["cut", "tree", "ends"]) fun _ _ _ _ _ _ us hl => match us, hl with | [_, _, _], _ => rfl) fun f fd F => no_ok (k := 0) F sc__law_becomes
  | n + 1 => by
    have hc__law_becomes := rec__law_becomes T NB n
    exact T.f__law_becomes.cal (fun f fd F => F.binds (ps := ["cut", "tree", "ends"]) fun _ _ _ _ _ _ us hl => match us, hl with | [_, _, _], _ => rfl) fun f fd F => d__law_becomes T NB (k := 1 + 1 * n) (by omega) hc__law_becomes F
theorem c__law_becomes (T : Txt g mg) (NB : NoB mg) (n : Nat) : Cal g mg base "_law_becomes" (1 + 1 * n) ["cut", "tree", "ends"] (F__law_becomes n) := (rec__law_becomes T NB n)
abbrev N__law_is_cut : List Str := ["within", "cut", "tree"]
theorem sc__law_is_cut : FnScope N__law_is_cut ["within", "cut"] (defScope s__law_is_cut) := ⟨rfl, rfl, rfl, by decide +kernel, rfl, by decide +kernel, by decide +kernel⟩
noncomputable def b__law_is_cut : FM Fl :=
(mSeq (mFor (mIt (mVar 0)) (gSet 2)
(mIf (mTruth (mCall 3 (F__law_becomes 30) (mCons (mVar 1) (mCons (mVar 2) (mCons (mNew (.dct [])) mNil)))))
(mRet (mC (.bool true)))
mNext))
(mRet (mC (.bool false))))
noncomputable def F__law_is_cut : Fn := runF 3 b__law_is_cut
theorem d__law_is_cut (T : Txt g mg) (NB : NoB mg) {f : Addr} {fd : FuncData} (F : Fun g.K "_law_is_cut" "_law_is_cut" s__law_is_cut f fd) : Ok g mg base (31 + 1) f fd ["within", "cut"] (runF 3 (b__law_is_cut)) := by
  refine def_ok F sc__law_is_cut (by decide) fun cdv A outer s H E B hg hE hr => ?_
  subst hg
  have hK := (rfl : B.g.K = B.g.K)
  have O := (⟨rfl, rfl, rfl, rfl, rfl⟩ : On (cxOf (L2.CX B.g.P B.g.w) B.g.P B.g.w B.g.K mg base N__law_is_cut "_law_is_cut" (defScope s__law_is_cut) f cdv A outer s H E) B.g mg base)
  have tk : Takes (cxOf (L2.CX B.g.P B.g.w) B.g.P B.g.w B.g.K mg base N__law_is_cut "_law_is_cut" (defScope s__law_is_cut) f cdv A outer s H E) (fun cls d _ H => B.E cls d H) := by subst hE; exact takes_of rfl rfl rfl rfl
  exact (fs_cons (fs_for (passes_of rfl) rfl (fi_seq hK (f_var (pv 0))) (fg_name (pg_name (i := 2) sc__law_is_cut.nd rfl (Or.inl rfl)))
(fs_one (fs_if (f_truth hK (f_call O (c__law_becomes T NB 30) (hr.mono (by omega)) tk (fa_cons (f_var (pv 1)) (fa_cons (f_var (pv 2)) (fa_cons f_dict0K fa_nil))) rfl))
(fs_one (fs_ret f_bl))
fs_nil)))
(fs_one (fs_ret f_bl)))
theorem c__law_is_cut (T : Txt g mg) (NB : NoB mg) : Cal g mg base "_law_is_cut" 32 ["within", "cut"] F__law_is_cut :=
  T.f__law_is_cut.cal (fun f fd F => F.binds (ps := ["within", "cut"]) fun _ _ _ _ _ _ us hl => match us, hl with | [_, _], _ => rfl) fun f fd F => d__law_is_cut T NB F
abbrev N__law_drawn_tree : List Str := ["draw", "parts", "deep", "way", "one", "other"]
theorem sc__law_drawn_tree : FnScope N__law_drawn_tree ["draw", "parts", "deep"] (defScope s__law_drawn_tree) := ⟨rfl, rfl, rfl, by decide +kernel, rfl, by decide +kernel, by decide +kernel⟩
noncomputable def b__law_drawn_tree (R__law_drawn_tree : Fn) : FM Fl :=
(mSeq (mAsg (mCall 2 F__law_take (mCons (mVar 0) (mCons (mC (.int 6)) mNil))) (gSet 3))
(mSeq (mIf (mOrT (mBool (mOp2 gEqA (mVar 2) (mC (.int 0)))) (mBool (mOp2 gEqA (mVar 3) (mC (.int 0)))))
(mRet (mCall 2 F__law_pick (mCons (mVar 0) (mCons (mLst (mCons (mTup (mCons (mC (.str ("yes" : Str))) mNil)) (mCons (mTup (mCons (mC (.str ("yes" : Str))) mNil)) (mCons (mTup (mCons (mC (.str ("no" : Str))) mNil)) (mCons (mTup (mCons (mC (.str ("no" : Str))) mNil)) (mCons (mTup (mCons (mC (.str ("fails" : Str))) (mCons (mC (.str ("w" : Str))) mNil))) mNil)))))) mNil))))
mNext)
(mSeq (mIf (mOrT (mBool (mOp2 gEqA (mVar 3) (mC (.int 1)))) (mBool (mOp2 gEqA (mVar 1) (mC (.int 0)))))
(mRet (mTup (mCons (mC (.str ("shows" : Str))) (mCons (mCall 2 F__law_take (mCons (mVar 0) (mCons (mC (.int 3)) mNil))) (mCons (mCall 3 R__law_drawn_tree (mCons (mVar 0) (mCons (mVar 1) (mCons (mOp2 gMinus (mVar 2) (mC (.int 1))) mNil)))) mNil)))))
mNext)
(mSeq (mPar 4 5 (mCons (mCall 3 R__law_drawn_tree (mCons (mVar 0) (mCons (mVar 1) (mCons (mOp2 gMinus (mVar 2) (mC (.int 1))) mNil)))) (mCons (mCall 3 R__law_drawn_tree (mCons (mVar 0) (mCons (mVar 1) (mCons (mOp2 gMinus (mVar 2) (mC (.int 1))) mNil)))) mNil)))
(mRet (mTup (mCons (mC (.str ("does" : Str))) (mCons (mCall 2 F__law_take (mCons (mVar 0) (mCons (mVar 1) mNil))) (mCons (mVar 4) (mCons (mVar 5) mNil))))))))))
noncomputable def F__law_drawn_tree : Nat → Fn
  | 0 => noFn
  | n + 1 => runF 6 (b__law_drawn_tree (F__law_drawn_tree n))
theorem d__law_drawn_tree (T : Txt g mg) (NB : NoB mg) {R__law_drawn_tree : Fn} {k : Nat} (hk : 3 ≤ k) (hc__law_drawn_tree : Cal g mg base "_law_drawn_tree" k ["draw", "parts", "deep"] R__law_drawn_tree) {f : Addr} {fd : FuncData} (F : Fun g.K "_law_drawn_tree" "_law_drawn_tree" s__law_drawn_tree f fd) : Ok g mg base (k + 1) f fd ["draw", "parts", "deep"] (runF 6 (b__law_drawn_tree R__law_drawn_tree)) := by
  refine def_ok F sc__law_drawn_tree (by decide) fun cdv A outer s H E B hg hE hr => ?_
  subst hg
  have hK := (rfl : B.g.K = B.g.K)
  have O := (⟨rfl, rfl, rfl, rfl, rfl⟩ : On (cxOf (L2.CX B.g.P B.g.w) B.g.P B.g.w B.g.K mg base N__law_drawn_tree "_law_drawn_tree" (defScope s__law_drawn_tree) f cdv A outer s H E) B.g mg base)
  have tk : Takes (cxOf (L2.CX B.g.P B.g.w) B.g.P B.g.w B.g.K mg base N__law_drawn_tree "_law_drawn_tree" (defScope s__law_drawn_tree) f cdv A outer s H E) (fun cls d _ H => B.E cls d H) := by subst hE; exact takes_of rfl rfl rfl rfl
  exact (fs_cons (fs_set (i := 3) sc__law_drawn_tree.nd rfl (Or.inl rfl) (f_call O (c__law_take T NB) (hr.mono (by omega)) tk (fa_cons (f_var (pv 0)) (fa_cons f_int fa_nil)) rfl))
(fs_cons (fs_if (PW.pt (f_orW (f_tcmp (eqA_ok hK (hu64 hr)) (f_var (pv 2)) f_int (nomark _)) (f_or1 (f_tcmp (eqA_ok hK (hu64 hr)) (f_var (pv 3)) f_int (nomark _)))))
(fs_one (fs_ret (f_call O (c__law_pick T NB) (hr.mono (by omega)) tk (fa_cons (f_var (pv 0)) (fa_cons (f_lst (fa_cons (f_tup (fa_cons f_str fa_nil)) (fa_cons (f_tup (fa_cons f_str fa_nil)) (fa_cons (f_tup (fa_cons f_str fa_nil)) (fa_cons (f_tup (fa_cons f_str fa_nil)) (fa_cons (f_tup (fa_cons f_str (fa_cons f_str fa_nil))) fa_nil)))))) fa_nil)) rfl)))
fs_nil)
(fs_cons (fs_if (PW.pt (f_orW (f_tcmp (eqA_ok hK (hu64 hr)) (f_var (pv 3)) f_int (nomark _)) (f_or1 (f_tcmp (eqA_ok hK (hu64 hr)) (f_var (pv 1)) f_int (nomark _)))))
(fs_one (fs_ret (f_tup (fa_cons f_str (fa_cons (f_call O (c__law_take T NB) (hr.mono (by omega)) tk (fa_cons (f_var (pv 0)) (fa_cons f_int fa_nil)) rfl) (fa_cons (f_call O hc__law_drawn_tree (hr.mono (by omega)) tk (fa_cons (f_var (pv 0)) (fa_cons (f_var (pv 1)) (fa_cons (f_bin (sub_ok) (f_var (pv 2)) f_int) fa_nil))) rfl) fa_nil))))))
fs_nil)
(fs_cons (fs_par (i := 4) (j := 5) rfl sc__law_drawn_tree.nd rfl rfl (by decide) rfl rfl (fa_cons (f_call O hc__law_drawn_tree (hr.mono (by omega)) tk (fa_cons (f_var (pv 0)) (fa_cons (f_var (pv 1)) (fa_cons (f_bin (sub_ok) (f_var (pv 2)) f_int) fa_nil))) rfl) (fa_cons (f_call O hc__law_drawn_tree (hr.mono (by omega)) tk (fa_cons (f_var (pv 0)) (fa_cons (f_var (pv 1)) (fa_cons (f_bin (sub_ok) (f_var (pv 2)) f_int) fa_nil))) rfl) fa_nil)))
(fs_one (fs_ret (f_tup (fa_cons f_str (fa_cons (f_call O (c__law_take T NB) (hr.mono (by omega)) tk (fa_cons (f_var (pv 0)) (fa_cons (f_var (pv 1)) fa_nil)) rfl) (fa_cons (f_var (pv 4)) (fa_cons (f_var (pv 5)) fa_nil)))))))))))
theorem rec__law_drawn_tree (T : Txt g mg) (NB : NoB mg) : ∀ n : Nat, (Cal g mg base "_law_drawn_tree" (3 + 1 * n) ["draw", "parts", "deep"] (F__law_drawn_tree n))
  | 0 => T.f__law_drawn_tree.cal (fun f fd F => F.binds (ps := ["draw", "parts", "deep"]) fun _ _ _ _ _ _ us hl => match us, hl with | [_, _, _], _ => rfl) fun f fd F => no_ok (k := 2) F sc__law_drawn_tree
  | n + 1 => by
    have hc__law_drawn_tree := rec__law_drawn_tree T NB n
    exact T.f__law_drawn_tree.cal (fun f fd F => F.binds (ps := ["draw", "parts", "deep"]) fun _ _ _ _ _ _ us hl => match us, hl with | [_, _, _], _ => rfl) fun f fd F => d__law_drawn_tree T NB (k := 3 + 1 * n) (by omega) hc__law_drawn_tree F
theorem c__law_drawn_tree (T : Txt g mg) (NB : NoB mg) (n : Nat) : Cal g mg base "_law_drawn_tree" (3 + 1 * n) ["draw", "parts", "deep"] (F__law_drawn_tree n) := (rec__law_drawn_tree T NB n)
abbrev N__law_no_parts : List Str := ["draw"]
theorem sc__law_no_parts : FnScope N__law_no_parts ["draw"] (defScope s__law_no_parts) := ⟨rfl, rfl, rfl, by decide +kernel, rfl, by decide +kernel, by decide +kernel⟩
noncomputable def b__law_no_parts : FM Fl :=
(mRet (mCall 2 F__law_pick (mCons (mVar 0) (mCons (mLst (mCons (mOp1 gNeg (mC (.int 1))) (mCons (mC (.int 5)) (mCons (mC .none) (mCons (mC (.str ("1" : Str))) (mCons (mC (.bool true)) (mCons (mC (.bool false)) (mCons (mTup (mCons (mC (.int 1)) mNil)) (mCons (mOp2 gPow (mC (.int 10)) (mC (.int 8))) mNil))))))))) mNil))))
noncomputable def F__law_no_parts : Fn := runF 1 b__law_no_parts
theorem d__law_no_parts (T : Txt g mg) (NB : NoB mg) {f : Addr} {fd : FuncData} (F : Fun g.K "_law_no_parts" "_law_no_parts" s__law_no_parts f fd) : Ok g mg base (3 + 1) f fd ["draw"] (runF 1 (b__law_no_parts)) := by
  refine def_ok F sc__law_no_parts (by decide) fun cdv A outer s H E B hg hE hr => ?_
  subst hg
  have hK := (rfl : B.g.K = B.g.K)
  have O := (⟨rfl, rfl, rfl, rfl, rfl⟩ : On (cxOf (L2.CX B.g.P B.g.w) B.g.P B.g.w B.g.K mg base N__law_no_parts "_law_no_parts" (defScope s__law_no_parts) f cdv A outer s H E) B.g mg base)
  have tk : Takes (cxOf (L2.CX B.g.P B.g.w) B.g.P B.g.w B.g.K mg base N__law_no_parts "_law_no_parts" (defScope s__law_no_parts) f cdv A outer s H E) (fun cls d _ H => B.E cls d H) := by subst hE; exact takes_of rfl rfl rfl rfl
  exact (fs_one (fs_ret (f_call O (c__law_pick T NB) (hr.mono (by omega)) tk (fa_cons (f_var (pv 0)) (fa_cons (f_lst (fa_cons (f_neg f_int) (fa_cons f_int (fa_cons f_non (fa_cons f_str (fa_cons f_bl (fa_cons f_bl (fa_cons (f_tup (fa_cons f_int fa_nil)) (fa_cons (f_bin (pow_ok) f_int f_int) fa_nil))))))))) fa_nil)) rfl)))
theorem c__law_no_parts (T : Txt g mg) (NB : NoB mg) : Cal g mg base "_law_no_parts" 4 ["draw"] F__law_no_parts :=
  T.f__law_no_parts.cal (fun f fd F => F.binds (ps := ["draw"]) fun _ _ _ _ _ _ us hl => match us, hl with | [_], _ => rfl) fun f fd F => d__law_no_parts T NB F
abbrev N_law : List Str := ["script", "draw", "turn", "parts", "cut", "yes", "no", "tree", "side", "within", "ends", "some", "lap", "thing", "due", "inner", "bad", "many", "k"]
theorem sc_law : FnScope N_law ["script"] (defScope s_law) := ⟨rfl, rfl, rfl, by decide +kernel, rfl, by decide +kernel, by decide +kernel⟩
noncomputable def b_law : FM Fl :=
(mSeq (mAsg (mCall 1 F__law_begun (mCons (mVar 0) mNil)) (gSet 1))
(mSeq (mFor (mRng rng1 (mCons (mOp2 gAdd (mC (.int 3)) (mOpn gMin2 (mCons (mOpn gLen (mCons (mVar 0) mNil)) (mCons (mC (.int 3)) mNil)))) mNil)) (gSet 2)
(mSeq (mAsg (mOp2 gAdd (mC (.int 1)) (mCall 2 F__law_take (mCons (mVar 1) (mCons (mC (.int 4)) mNil)))) (gSet 3))
(mSeq (mAsg (mComp (mRng rng1 (mCons (mC (.int 3)) mNil)) (.nm 18) [18] mYes (mCall 3 (F__law_drawn_tree 30) (mCons (mVar 1) (mCons (mVar 3) (mCons (mC (.int 2)) mNil))))) (gLstF 3 (gConsF (gSet 4) (gConsF (gSet 5) (gConsF (gSet 6) gNilF)))))
(mSeq (mPar 7 8 (mCons (mCall 3 (F__law_grafted 30) (mCons (mVar 4) (mCons (mVar 5) (mCons (mVar 6) mNil)))) (mCons (mCall 3 (F__law_drawn_tree 30) (mCons (mVar 1) (mCons (mVar 3) (mCons (mC (.int 1)) mNil)))) mNil)))
(mSeq (mIf (mBool (mOp2 gEqA (mCall 2 F__law_take (mCons (mVar 1) (mCons (mC (.int 2)) mNil))) (mC (.int 0))))
(mAsg (mIfE (mBool (mOp2 gEqA (mCall 2 F__law_take (mCons (mVar 1) (mCons (mC (.int 2)) mNil))) (mC (.int 0)))) (mTup (mCons (mC (.str ("does" : Str))) (mCons (mCall 2 F__law_take (mCons (mVar 1) (mCons (mVar 3) mNil))) (mCons (mVar 8) (mCons (mVar 7) mNil))))) (mTup (mCons (mC (.str ("shows" : Str))) (mCons (mC (.int 1)) (mCons (mVar 7) mNil))))) (gSet 7))
mNext)
(mSeq (mAsg (mCall 1 (F__law_all_within 30) (mCons (mVar 7) mNil)) (gSet 9))
(mSeq (mIf (mOrT (mBool (mOp2 (gIsN true) (mCallK 3 [2, 1, 0] F_is_cut (mCons (mVar 4) (mCons (mVar 7) (mCons (mVar 3) mNil)))) (mC (.bool true)))) (mBool (mOp2 (gIsN true) (mCall 3 F_is_cut (mCons (mVar 3) (mCons (mVar 7) (mCons (mVar 7) mNil)))) (mC (.bool true)))))
(mRet (mC (.bool false)))
mNext)
(mSeq (mAsg (mComp (mRng rng1 (mCons (mC (.int 2)) mNil)) (.nm 18) [18] mYes (mCall 2 F__law_pick (mCons (mVar 1) (mCons (mLst (mCons (mTup (mCons (mC (.str ("yes" : Str))) mNil)) (mCons (mTup (mCons (mC (.str ("no" : Str))) mNil)) (mCons (mTup (mCons (mC (.str ("fails" : Str))) (mCons (mC (.str ("w" : Str))) mNil))) mNil)))) mNil)))) (gSet 10))
(mSeq (mAsg (mLst (mCons (mCall 3 (F__law_grafted 30) (mCons (mVar 4) (mCons (mOp2 gIxA (mVar 10) (mC (.int 0))) (mCons (mOp2 gIxA (mVar 10) (mC (.int 1))) mNil)))) (mCons (mCall 2 F__law_pick (mCons (mVar 1) (mCons (mVar 9) mNil))) (mCons (mCall 3 (F__law_drawn_tree 30) (mCons (mVar 1) (mCons (mVar 3) (mCons (mC (.int 2)) mNil)))) (mCons (mCall 3 (F__law_grafted 30) (mCons (mVar 8) (mCons (mVar 5) (mCons (mVar 6) mNil)))) mNil))))) (gSet 11))
(mSeq (mFor (mRng rng1 (mCons (mC (.int 8)) mNil)) (gSet 12)
(mSeq (mAsg (mIfE (mBool (mOp2 gLt (mVar 12) (mOpn gLen (mCons (mVar 11) mNil)))) (mOp2 gIxA (mVar 11) (mVar 12)) (mCall 3 F__law_bent (mCons (mVar 1) (mCons (mCall 2 F__law_pick (mCons (mVar 1) (mCons (mOp2 gAdd (mVar 11) (mLst (mCons (mVar 4) (mCons (mVar 7) mNil)))) mNil))) (mCons (mLst (mCons (mC (.str ("w" : Str))) (mCons (mC (.str ("err" : Str))) mNil))) mNil))))) (gSet 13))
(mSeq (mAsg (mAndV (mCall 2 (F__law_is_tree 30) (mCons (mVar 3) (mCons (mVar 13) mNil))) (mCall 2 F__law_is_cut (mCons (mVar 9) (mCons (mVar 13) mNil)))) (gSet 14))
(mSeq (mIf (mBool (mOp2 gNe (mOpn gRepr (mCons (mCall 3 F_is_cut (mCons (mVar 3) (mCons (mVar 7) (mCons (mVar 13) mNil)))) mNil)) (mOpn gRepr (mCons (mVar 14) mNil))))
(mRet (mC (.bool false)))
mNext)
(mIf (mAndT (mTruth (mVar 14)) (mBool (mOp2 gLt (mVar 12) (mC (.int 4)))))
(mSeq (mAsg (mCall 2 F__law_pick (mCons (mVar 1) (mCons (mCall 1 (F__law_all_within 30) (mCons (mVar 13) mNil)) mNil))) (gSet 15))
(mIf (mOrT (mBool (mOp2 (gIsN true) (mCall 3 F_is_cut (mCons (mVar 3) (mCons (mVar 13) (mCons (mVar 15) mNil)))) (mC (.bool true)))) (mBool (mOp2 (gIsN true) (mCall 3 F_is_cut (mCons (mVar 3) (mCons (mVar 7) (mCons (mVar 15) mNil)))) (mC (.bool true)))))
(mRet (mC (.bool false)))
mNext))
mNext)))))
(mSeq (mParT (gConsF (gSet 16) (gConsF (gSet 17) gNilF)) 2 (mCons (mCall 2 F__law_pick (mCons (mVar 1) (mCons (mLst (mCons (mC .none) (mCons (mC (.int 5)) (mCons (mC (.str ("yes" : Str))) (mCons (mLst (mCons (mC (.str ("yes" : Str))) mNil)) (mCons (mTup (mCons (mC (.str ("does" : Str))) (mCons (mVar 3) (mCons (mVar 5) (mCons (mVar 6) mNil))))) (mCons (mTup (mCons (mC (.str ("shows" : Str))) (mCons (mC (.int 8)) (mCons (mVar 5) mNil)))) (mCons (mTup (mCons (mC (.str ("fails" : Str))) (mCons (mC (.str ("let" : Str))) mNil))) (mCons (mTup mNil) mNil))))))))) mNil))) (mCons (mCall 1 F__law_no_parts (mCons (mVar 1) mNil)) mNil)))
(mSeq (mIf (mNotT (mTruth (mOp1 (gIsX errs ("BadTree" : Str)) (mErr ("law.<locals>.<lambda>" : Str) errs (mCall 3 F_is_cut (mCons (mVar 3) (mCons (mVar 16) (mCons (mVar 16) mNil))))))))
(mRet (mC (.bool false)))
mNext)
(mIf (mNotT (mTruth (mOp1 (gIsX errs ("BadParts" : Str)) (mErr ("law.<locals>.<lambda>" : Str) errs (mCall 3 F_is_cut (mCons (mVar 17) (mCons (mVar 16) (mCons (mVar 4) mNil))))))))
(mRet (mC (.bool false)))
mNext)))))))))))))
(mRet (mC (.bool true)))))
noncomputable def F_law : Fn := runF 19 b_law
theorem d_law (T : Txt g mg) (NB : NoB mg) {f : Addr} {fd : FuncData} (F : Fun g.K "law" "law" s_law f fd) {c : Addr} (hc : codeAt g.K f = some (.ref c)) (TB : LamX.TabB base mg c g.T.tab) : FnOk g.P g.w g.K mg base (L2.CX g.P g.w) (35 + 1) f fd ["script"] (spL g 1 (runF 19 b_law)) := by
  obtain ⟨CS, hme, hErr0⟩ := T.fe
  refine def_okL F sc_law (by decide) fun cdv A outer s H E B hg hE hPv0 hcd hr => ?_
  subst hg
  have hPv : ∀ a, ¬ B.Pv a := fun a => by rw [hPv0]; exact fun z => z
  have hErrs := hErr0
  have hcode : cdv = .ref c := Option.some.inj (hcd.symm.trans hc)
  have hK := (rfl : B.g.K = B.g.K)
  have O := (⟨rfl, rfl, rfl, rfl, rfl⟩ : On (cxOf (L2.CX B.g.P B.g.w) B.g.P B.g.w B.g.K mg base N_law "law" (defScope s_law) f cdv A outer s H E) B.g mg base)
  have tk : Takes (cxOf (L2.CX B.g.P B.g.w) B.g.P B.g.w B.g.K mg base N_law "law" (defScope s_law) f cdv A outer s H E) (fun cls d _ H => B.E cls d H) := by subst hE; exact takes_of rfl rfl rfl rfl
  have hCS := hme
  exact (fs_cons (fs_set (i := 1) sc_law.nd rfl (Or.inr rfl) (f_call O (c__law_begun T NB) (hr.mono (by omega)) tk (fa_cons (f_var (pv 0)) fa_nil) rfl))
(fs_cons (fs_for (passes_of rfl) rfl (fi_rng1 rfl (by rw [O.m]; exact NB.range) (fa_cons (f_bin (add_ok hK) f_int (f_blt (min2_ok rfl) rfl (by rw [O.m]; exact NB.min) (by decide +kernel) (fa_cons (f_blt (len_ok hK) rfl (by rw [O.m]; exact NB.len) (by decide +kernel) (fa_cons (f_var (pv 0)) fa_nil)) (fa_cons f_int fa_nil)))) fa_nil)) (fg_name (pg_name (i := 2) sc_law.nd rfl (Or.inl rfl)))
(fs_cons (fs_set (i := 3) sc_law.nd rfl (Or.inr rfl) (f_bin (add_ok hK) f_int (f_call O (c__law_take T NB) (hr.mono (by omega)) tk (fa_cons (f_var (pv 1)) (fa_cons f_int fa_nil)) rfl)))
(fs_cons (fs_asg (f_lc (own := [(("k" : Str), 18)]) hK rfl sc_law.nd (fi_rng1 rfl (by rw [O.m]; exact NB.range) (fa_cons f_int fa_nil)) (blkOk_by (N := N_law) (sc := defScope s_law) (by decide +kernel)) (by decide) (fun _ _ _ _ _ => pg_name (i := 18) sc_law.nd rfl (Or.inl rfl)) (fun D1 _ _ _ _ _ => fts_nil) (fun D1 _ _ _ _ _ => (f_call (onc D1 O) (c__law_drawn_tree T NB 30) (hr.mono (by omega)) takes_blk (fa_cons (f_var (pv 1)) (fa_cons (f_var (pv 3)) (fa_cons f_int fa_nil))) (by rfl)))) (fg_lst hK rfl (fg_cons (fg_name (pg_name (i := 4) sc_law.nd rfl (Or.inr rfl))) (fg_cons (fg_name (pg_name (i := 5) sc_law.nd rfl (Or.inl rfl))) (fg_cons (fg_name (pg_name (i := 6) sc_law.nd rfl (Or.inl rfl))) fg_nil)))))
(fs_cons (fs_par (i := 7) (j := 8) rfl sc_law.nd rfl rfl (by decide) rfl rfl (fa_cons (f_call O (c__law_grafted T NB 30) (hr.mono (by omega)) tk (fa_cons (f_var (pv 4)) (fa_cons (f_var (pv 5)) (fa_cons (f_var (pv 6)) fa_nil))) rfl) (fa_cons (f_call O (c__law_drawn_tree T NB 30) (hr.mono (by omega)) tk (fa_cons (f_var (pv 1)) (fa_cons (f_var (pv 3)) (fa_cons f_int fa_nil))) rfl) fa_nil)))
(fs_cons (fs_if (f_tcmp (eqA_ok hK (hu64 hr)) (f_call O (c__law_take T NB) (hr.mono (by omega)) tk (fa_cons (f_var (pv 1)) (fa_cons f_int fa_nil)) rfl) f_int (nomark _))
(fs_one (fs_set (i := 7) sc_law.nd rfl (Or.inl rfl) (f_ifE (f_tcmp (eqA_ok hK (hu64 hr)) (f_call O (c__law_take T NB) (hr.mono (by omega)) tk (fa_cons (f_var (pv 1)) (fa_cons f_int fa_nil)) rfl) f_int (nomark _)) (f_tup (fa_cons f_str (fa_cons (f_call O (c__law_take T NB) (hr.mono (by omega)) tk (fa_cons (f_var (pv 1)) (fa_cons (f_var (pv 3)) fa_nil)) rfl) (fa_cons (f_var (pv 8)) (fa_cons (f_var (pv 7)) fa_nil))))) (f_tup (fa_cons f_str (fa_cons f_int (fa_cons (f_var (pv 7)) fa_nil)))))))
fs_nil)
(fs_cons (fs_set (i := 9) sc_law.nd rfl (Or.inl rfl) (f_call O (c__law_all_within T NB 30) (hr.mono (by omega)) tk (fa_cons (f_var (pv 7)) fa_nil) rfl))
(fs_cons (fs_if (PW.pt (f_orW (f_tcmp (isNot_ok) (f_callK O (ck_is_cut_thing_tree_parts T NB) rfl (hr.mono (by omega)) tk (fk_cons (f_var (pv 4)) (fk_cons (f_var (pv 7)) (fk_cons (f_var (pv 3)) fk_nil))) rfl (hlen := (len_cons (len_cons (len_cons len_nil))))) f_bl (nomark _)) (f_or1 (f_tcmp (isNot_ok) (f_call O (c_is_cut T NB) (hr.mono (by omega)) tk (fa_cons (f_var (pv 3)) (fa_cons (f_var (pv 7)) (fa_cons (f_var (pv 7)) fa_nil))) rfl) f_bl (nomark _)))))
(fs_one (fs_ret f_bl))
fs_nil)
(fs_cons (fs_lc_set (i := 10) (own := [(("k" : Str), 18)]) rfl rfl (sw_true rfl rfl rfl (by decide +kernel)) hK rfl sc_law.nd (fi_rng1 rfl (by rw [O.m]; exact NB.range) (fa_cons f_int fa_nil)) (blkOk_by (N := N_law) (sc := defScope s_law) (by decide +kernel)) (by decide) (fun _ _ _ _ _ => pg_name (i := 18) sc_law.nd rfl (Or.inl rfl)) (fun D1 _ _ _ _ _ => fts_nil) (fun D1 _ _ _ _ _ => (f_call (onc D1 O) (c__law_pick T NB) (hr.mono (by omega)) takes_blk (fa_cons (f_var (pv 1)) (fa_cons (f_lst (fa_cons (f_tup (fa_cons f_str fa_nil)) (fa_cons (f_tup (fa_cons f_str fa_nil)) (fa_cons (f_tup (fa_cons f_str (fa_cons f_str fa_nil))) fa_nil)))) fa_nil)) (by rfl))))
(fs_cons (fs_set (i := 11) sc_law.nd rfl (Or.inl rfl) (f_lst (fa_cons (f_call O (c__law_grafted T NB 30) (hr.mono (by omega)) tk (fa_cons (f_var (pv 4)) (fa_cons (f_ix (ixA_ok O (hu64 hr)) (f_var (pv 10)) f_int (fun _ _ => rfl)) (fa_cons (f_ix (ixA_ok O (hu64 hr)) (f_var (pv 10)) f_int (fun _ _ => rfl)) fa_nil))) rfl) (fa_cons (f_call O (c__law_pick T NB) (hr.mono (by omega)) tk (fa_cons (f_var (pv 1)) (fa_cons (f_var (pv 9)) fa_nil)) rfl) (fa_cons (f_call O (c__law_drawn_tree T NB 30) (hr.mono (by omega)) tk (fa_cons (f_var (pv 1)) (fa_cons (f_var (pv 3)) (fa_cons f_int fa_nil))) rfl) (fa_cons (f_call O (c__law_grafted T NB 30) (hr.mono (by omega)) tk (fa_cons (f_var (pv 8)) (fa_cons (f_var (pv 5)) (fa_cons (f_var (pv 6)) fa_nil))) rfl) fa_nil))))))
(fs_cons (fs_for (passes_of rfl) rfl (fi_rng1 rfl (by rw [O.m]; exact NB.range) (fa_cons f_int fa_nil)) (fg_name (pg_name (i := 12) sc_law.nd rfl (Or.inl rfl)))
(fs_cons (fs_set (i := 13) sc_law.nd rfl (Or.inl rfl) (f_ifE (f_tcmp (lt_ok) (f_var (pv 12)) (f_blt (len_ok hK) rfl (by rw [O.m]; exact NB.len) (by decide +kernel) (fa_cons (f_var (pv 11)) fa_nil)) (nomark _)) (f_ix (ixA_ok O (hu64 hr)) (f_var (pv 11)) (f_var (pv 12)) (fun _ _ => rfl)) (f_call O (c__law_bent T NB) (hr.mono (by omega)) tk (fa_cons (f_var (pv 1)) (fa_cons (f_call O (c__law_pick T NB) (hr.mono (by omega)) tk (fa_cons (f_var (pv 1)) (fa_cons (f_bin (add_ok hK) (f_var (pv 11)) (f_lst (fa_cons (f_var (pv 4)) (fa_cons (f_var (pv 7)) fa_nil)))) fa_nil)) rfl) (fa_cons (f_lst (fa_cons f_str (fa_cons f_str fa_nil))) fa_nil))) rfl)))
(fs_cons (fs_set (i := 14) sc_law.nd rfl (Or.inl rfl) (f_andV hK (f_call O (c__law_is_tree T NB 30) (hr.mono (by omega)) tk (fa_cons (f_var (pv 3)) (fa_cons (f_var (pv 13)) fa_nil)) rfl) (f_andV1 (f_call O (c__law_is_cut T NB) (hr.mono (by omega)) tk (fa_cons (f_var (pv 9)) (fa_cons (f_var (pv 13)) fa_nil)) rfl))))
(fs_cons (fs_if (f_tcmp (ne_ok hK (hu64 hr)) (f_blt (repr_ok) rfl (by rw [O.m]; exact NB.repr) (by decide +kernel) (fa_cons (f_call O (c_is_cut T NB) (hr.mono (by omega)) tk (fa_cons (f_var (pv 3)) (fa_cons (f_var (pv 7)) (fa_cons (f_var (pv 13)) fa_nil))) rfl) fa_nil)) (f_blt (repr_ok) rfl (by rw [O.m]; exact NB.repr) (by decide +kernel) (fa_cons (f_var (pv 14)) fa_nil)) (nomark _))
(fs_one (fs_ret f_bl))
fs_nil)
(fs_one (fs_if (PW.pt (f_andW (f_truth hK (f_var (pv 14))) (f_and1 (f_tcmp (lt_ok) (f_var (pv 12)) f_int (nomark _)))))
(fs_cons (fs_set (i := 15) sc_law.nd rfl (Or.inl rfl) (f_call O (c__law_pick T NB) (hr.mono (by omega)) tk (fa_cons (f_var (pv 1)) (fa_cons (f_call O (c__law_all_within T NB 30) (hr.mono (by omega)) tk (fa_cons (f_var (pv 13)) fa_nil) rfl) fa_nil)) rfl))
(fs_one (fs_if (PW.pt (f_orW (f_tcmp (isNot_ok) (f_call O (c_is_cut T NB) (hr.mono (by omega)) tk (fa_cons (f_var (pv 3)) (fa_cons (f_var (pv 13)) (fa_cons (f_var (pv 15)) fa_nil))) rfl) f_bl (nomark _)) (f_or1 (f_tcmp (isNot_ok) (f_call O (c_is_cut T NB) (hr.mono (by omega)) tk (fa_cons (f_var (pv 3)) (fa_cons (f_var (pv 7)) (fa_cons (f_var (pv 15)) fa_nil))) rfl) f_bl (nomark _)))))
(fs_one (fs_ret f_bl))
fs_nil)))
fs_nil))))))
(fs_cons (fs_parT hK rfl (fa_cons (f_call O (c__law_pick T NB) (hr.mono (by omega)) tk (fa_cons (f_var (pv 1)) (fa_cons (f_lst (fa_cons f_non (fa_cons f_int (fa_cons f_str (fa_cons (f_lst (fa_cons f_str fa_nil)) (fa_cons (f_tup (fa_cons f_str (fa_cons (f_var (pv 3)) (fa_cons (f_var (pv 5)) (fa_cons (f_var (pv 6)) fa_nil))))) (fa_cons (f_tup (fa_cons f_str (fa_cons f_int (fa_cons (f_var (pv 5)) fa_nil)))) (fa_cons (f_tup (fa_cons f_str (fa_cons f_str fa_nil))) (fa_cons (f_tup fa_nil) fa_nil))))))))) fa_nil)) rfl) (fa_cons (f_call O (c__law_no_parts T NB) (hr.mono (by omega)) tk (fa_cons (f_var (pv 1)) fa_nil) rfl) fa_nil)) (fg_cons (fg_name (pg_name (i := 16) sc_law.nd rfl (Or.inr rfl))) (fg_cons (fg_name (pg_name (i := 17) sc_law.nd rfl (Or.inr rfl))) fg_nil)))
(fs_cons (fs_if (f_tnot (f_truth hK (f_isX O T.kits (by decide +kernel) (by rw [O.m]; exact NB.isinstance) (f_lamErr O T.f__law_error hPv hErrs (fun f fd F => F.binds (ps := ["work"]) fun _ _ _ _ _ _ us hl => match us, hl with | [_], _ => rfl) sc__law_error rfl (.inl rfl) (fun f cdv => gives__law_error hCS) TB hcode (k := 33) (hr.mono (by omega)) (LamX.lamS_by (show LamX.lamSB (defScope s_law) _ = true from by decide +kernel)) rfl (fun _ _ _ _ _ => rfl) (fun A' outer' s' H' E' f' c' B' hB hE' hr => (by
      have T0 := T
      have T : Txt B'.g mg := by rw [hB]; exact T0
      have hK : B'.g.K = B'.g.K := rfl
      exact (f_call (lamO hB O) (c_is_cut T NB) (hr.mono (by omega)) (lamTk hE') (fa_cons (f_var (pv 3)) (fa_cons (f_var (pv 16)) (fa_cons (f_var (pv 16)) fa_nil))) (by rfl))))))))
(fs_one (fs_ret f_bl))
fs_nil)
(fs_one (fs_if (f_tnot (f_truth hK (f_isX O T.kits (by decide +kernel) (by rw [O.m]; exact NB.isinstance) (f_lamErr O T.f__law_error hPv hErrs (fun f fd F => F.binds (ps := ["work"]) fun _ _ _ _ _ _ us hl => match us, hl with | [_], _ => rfl) sc__law_error rfl (.inl rfl) (fun f cdv => gives__law_error hCS) TB hcode (k := 33) (hr.mono (by omega)) (LamX.lamS_by (show LamX.lamSB (defScope s_law) _ = true from by decide +kernel)) rfl (fun _ _ _ _ _ => rfl) (fun A' outer' s' H' E' f' c' B' hB hE' hr => (by
      have T0 := T
      have T : Txt B'.g mg := by rw [hB]; exact T0
      have hK : B'.g.K = B'.g.K := rfl
      exact (f_call (lamO hB O) (c_is_cut T NB) (hr.mono (by omega)) (lamTk hE') (fa_cons (f_var (pv 17)) (fa_cons (f_var (pv 16)) (fa_cons (f_var (pv 4)) fa_nil))) (by rfl))))))))
(fs_one (fs_ret f_bl))
fs_nil))))))))))))))
(fs_one (fs_ret f_bl))))
abbrev N_Forest_tree : List Str := ["self", "number", "key"]
theorem sc_Forest_tree : FnScope N_Forest_tree ["self", "number"] (defScope s_Forest_tree) := ⟨rfl, rfl, rfl, by decide +kernel, rfl, by decide +kernel, by decide +kernel⟩
noncomputable def b_Forest_tree (R_Forest_tree : Fn) : FM Fl :=
(mSeq (mAsg (mOp2 gIxA (mOp1 (gFld ("Forest" : Str) ("entries" : Str)) (mVar 0)) (mVar 1)) (gSet 2))
(mSeq (mIf (mBool (mOp2 gEqA (mOp2 gIxA (mVar 2) (mC (.int 0))) (mC (.str ("does" : Str)))))
(mRet (mTup (mCons (mC (.str ("does" : Str))) (mCons (mOp2 gIxA (mVar 2) (mC (.int 1))) (mCons (mMeth ("Forest" : Str) ("tree" : Str) 2 R_Forest_tree (mVar 0) (mCons (mOp2 gIxA (mVar 2) (mC (.int 2))) mNil)) (mCons (mMeth ("Forest" : Str) ("tree" : Str) 2 R_Forest_tree (mVar 0) (mCons (mOp2 gIxA (mVar 2) (mC (.int 3))) mNil)) mNil))))))
mNext)
(mRet (mIfE (mBool (mOp2 gEqA (mOp2 gIxA (mVar 2) (mC (.int 0))) (mC (.str ("shows" : Str))))) (mTup (mCons (mC (.str ("shows" : Str))) (mCons (mOp2 gIxA (mVar 2) (mC (.int 1))) (mCons (mMeth ("Forest" : Str) ("tree" : Str) 2 R_Forest_tree (mVar 0) (mCons (mOp2 gIxA (mVar 2) (mC (.int 2))) mNil)) mNil)))) (mVar 2)))))
noncomputable def F_Forest_tree : Nat → Fn
  | 0 => noFn
  | n + 1 => runF 3 (b_Forest_tree (F_Forest_tree n))
theorem d_Forest_tree (T : Txt g mg) (NB : NoB mg) {R_Forest_tree : Fn} {k : Nat} (hk : 0 ≤ k) (hm_Forest_tree : Met g mg base "Forest" "tree" k ["self", "number"] R_Forest_tree) {f : Addr} {fd : FuncData} (F : Fun g.K "tree" "Forest.tree" s_Forest_tree f fd) : Ok g mg base (k + 1) f fd ["self", "number"] (runF 3 (b_Forest_tree R_Forest_tree)) := by
  refine def_ok F sc_Forest_tree (by decide) fun cdv A outer s H E B hg hE hr => ?_
  subst hg
  have hK := (rfl : B.g.K = B.g.K)
  have O := (⟨rfl, rfl, rfl, rfl, rfl⟩ : On (cxOf (L2.CX B.g.P B.g.w) B.g.P B.g.w B.g.K mg base N_Forest_tree "Forest.tree" (defScope s_Forest_tree) f cdv A outer s H E) B.g mg base)
  have tk : Takes (cxOf (L2.CX B.g.P B.g.w) B.g.P B.g.w B.g.K mg base N_Forest_tree "Forest.tree" (defScope s_Forest_tree) f cdv A outer s H E) (fun cls d _ H => B.E cls d H) := by subst hE; exact takes_of rfl rfl rfl rfl
  exact (fs_cons (fs_set (i := 2) sc_Forest_tree.nd rfl (Or.inl rfl) (f_ix (ixA_ok O (hu64 hr)) (f_fld hK (T.fld_Forest_entries) (f_var (pv 0))) (f_var (pv 1)) (fun _ _ => rfl)))
(fs_cons (fs_if (f_tcmp (eqA_ok hK (hu64 hr)) (f_ix (ixA_ok O (hu64 hr)) (f_var (pv 2)) f_int (fun _ _ => rfl)) f_str (nomark _))
(fs_one (fs_ret (f_tup (fa_cons f_str (fa_cons (f_ix (ixA_ok O (hu64 hr)) (f_var (pv 2)) f_int (fun _ _ => rfl)) (fa_cons (f_meth O hm_Forest_tree (hr.mono (by omega)) tk (f_var (pv 0)) (fa_cons (f_ix (ixA_ok O (hu64 hr)) (f_var (pv 2)) f_int (fun _ _ => rfl)) fa_nil)) (fa_cons (f_meth O hm_Forest_tree (hr.mono (by omega)) tk (f_var (pv 0)) (fa_cons (f_ix (ixA_ok O (hu64 hr)) (f_var (pv 2)) f_int (fun _ _ => rfl)) fa_nil)) fa_nil)))))))
fs_nil)
(fs_one (fs_ret (f_ifE (f_tcmp (eqA_ok hK (hu64 hr)) (f_ix (ixA_ok O (hu64 hr)) (f_var (pv 2)) f_int (fun _ _ => rfl)) f_str (nomark _)) (f_tup (fa_cons f_str (fa_cons (f_ix (ixA_ok O (hu64 hr)) (f_var (pv 2)) f_int (fun _ _ => rfl)) (fa_cons (f_meth O hm_Forest_tree (hr.mono (by omega)) tk (f_var (pv 0)) (fa_cons (f_ix (ixA_ok O (hu64 hr)) (f_var (pv 2)) f_int (fun _ _ => rfl)) fa_nil)) fa_nil)))) (f_var (pv 2)))))))
theorem rec_Forest_tree (T : Txt g mg) (NB : NoB mg) : ∀ n : Nat, (Met g mg base "Forest" "tree" (1 + 1 * n) ["self", "number"] (F_Forest_tree n))
  | 0 => T.m_Forest_tree.met (fun f fd F => F.binds (ps := ["self", "number"]) fun _ _ _ _ _ _ us hl => match us, hl with | [_, _], _ => rfl) fun f fd F => no_ok (k := 0) F sc_Forest_tree
  | n + 1 => by
    have hm_Forest_tree := rec_Forest_tree T NB n
    exact T.m_Forest_tree.met (fun f fd F => F.binds (ps := ["self", "number"]) fun _ _ _ _ _ _ us hl => match us, hl with | [_, _], _ => rfl) fun f fd F => d_Forest_tree T NB (k := 1 + 1 * n) (by omega) hm_Forest_tree F
theorem m_Forest_tree (T : Txt g mg) (NB : NoB mg) (n : Nat) : Met g mg base "Forest" "tree" (1 + 1 * n) ["self", "number"] (F_Forest_tree n) := (rec_Forest_tree T NB n)
end
end FL
namespace FL
open PySem PySem.Spec PyProof.Rows L2
local macro_rules | `(tactic| walk_at "wp") => `(tactic| simp only [wp_var, wp_C, wp_nil, wp_cons, wp_op1, wp_op2, wp_opn, wp_tup, wp_lst, wp_box, wp_truth, wp_bool, wp_andT, wp_orT, wp_notT, wp_andV, wp_orV, wp_notV, wp_ifE, wp_seq, nxt_nx, nxt_rt, nxt_bk, nxt_ct, wp_next, wp_brk, wp_cnt, wp_expr, wp_ret, wp_retN, wp_if, wp_asg, wp_gset, wp_par, wp_sub, wp_setFld, wp_call, wp_meth, wp_make, wp_chain, wp_noP, wp_part, wp_sl, wp_rev, wp_ef, wp_new, wp_it, wp_rng, wp_frz, wp_for, wp_tupF, wp_nilF, wp_consF, wp_yes, wpo_some, wpo_none, post_ok, post_ex, start0_eq, ends_nx, ends_rt, List.getElem?_cons_zero, List.getElem?_cons_succ, List.set_cons_zero, List.set_cons_succ, List.map_cons, List.map_nil, List.length_cons, List.length_nil, List.cons_append, List.nil_append, List.append_nil, Nat.sub_self, Nat.zero_add, Nat.reduceAdd, Nat.reduceSub, List.replicate_succ, List.replicate_zero, true_and, and_true, forall_const, reduceCtorEq, false_implies, implies_true, Bool.true_eq_false, Bool.false_eq_true, Bool.not_true, Bool.not_false])
/-! ### operations on data -/
section
variable {os : List Ob}
theorem gIs_d {c : String} {x : PyData} : gIs c os (.d x) = some (.d (.bool (isT c (tyD x)))) := rfl
theorem truth_b {b : Bool} : truthW os (.d (.bool b)) = some b := rfl
theorem truth_t {xs : List PyData} : truthW os (.d (.tuple xs)) = some (!xs.isEmpty) := rfl
theorem boolW_b {b : Bool} : boolW (.d (.bool b)) = some b := rfl
theorem intW_i {i : Int} : intW (.d (.int i)) = some i := rfl
theorem gIxA_t {xs : List PyData} {i : Int} : gIxA os (.d (.tuple xs)) (.d (.int i)) = (atI xs i).map .d := rfl
theorem gIxA_l {xs : List PyData} {i : Int} : gIxA os (.d (.list xs)) (.d (.int i)) = (atI xs i).map .d := rfl
theorem gAdd_i {i j : Int} : gAdd os (.d (.int i)) (.d (.int j)) = some (.d (.int (i + j))) := rfl
theorem gLe_i {i j : Int} : gLe os (.d (.int i)) (.d (.int j)) = some (.d (.bool (decide (i ≤ j)))) := rfl
theorem gLt_i {i j : Int} : gLt os (.d (.int i)) (.d (.int j)) = some (.d (.bool (decide (i < j)))) := rfl
theorem gGt_i {i j : Int} : gGt os (.d (.int i)) (.d (.int j)) = some (.d (.bool (decide (j < i)))) := rfl
theorem gGe_i {i j : Int} : gGe os (.d (.int i)) (.d (.int j)) = some (.d (.bool (decide (j ≤ i)))) := rfl
theorem gMinus_i {i j : Int} : gMinus os (.d (.int i)) (.d (.int j)) = some (.d (.int (i - j))) := rfl
theorem eqv_int {i j : Int} : PyData.eqv (.int i) (.int j) = decide (i = j) := by rw [PyData.eqv]; rfl
theorem eqv_str {i j : Str} : PyData.eqv (.str i) (.str j) = decide (i = j) := by rw [PyData.eqv]; rfl
theorem gEqA_s {a b : Str} : gEqA os (.d (.str a)) (.d (.str b)) = some (.d (.bool (decide (a = b)))) := by
  unfold gEqA gNilT gEq dataW eqOk
  simp [scalD, eqv_str]
theorem gEqA_i {a b : Int} : gEqA os (.d (.int a)) (.d (.int b)) = some (.d (.bool (decide (a = b)))) := by
  unfold gEqA gNilT gEq dataW eqOk
  simp [scalD, eqv_int]
theorem gNe_i {a b : Int} : gNe os (.d (.int a)) (.d (.int b)) = some (.d (.bool (!decide (a = b)))) := by
  unfold gNe dataW eqOk
  simp [scalD, eqv_int]
theorem gNe_s {a b : Str} : gNe os (.d (.str a)) (.d (.str b)) = some (.d (.bool (!decide (a = b)))) := by
  unfold gNe dataW eqOk
  simp [scalD, eqv_str]
theorem inD_s {z : Str} {ss : List Str} : inD (.str z) (ss.map .str) = decide (z ∈ ss) := by
  unfold inD
  induction ss with
  | nil => rfl
  | cons a ss ih =>
    rw [List.map_cons, List.any_cons, ih, eqv_str]
    by_cases h : a = z
    · subst h; simp
    · simp [h, Ne.symm h]
theorem flat_s {ss : List Str} : (ss.map PyData.str).all flatD = true := by
  induction ss with
  | nil => rfl
  | cons a ss ih => simpa [flatD] using ih
theorem gInA_sT {neg : Bool} {z : Str} {ss : List Str} : gInA neg os (.d (.str z)) (.d (.tuple (ss.map .str))) = some (.d (.bool (neg != decide (z ∈ ss)))) := by
  unfold gInA gDin gIn inW inSeq inOk
  simp [seqOf, inD_s, flat_s, flatD]
theorem gInA_sL {neg : Bool} {z : Str} {ss : List Str} : gInA neg os (.d (.str z)) (.d (.list (ss.map .str))) = some (.d (.bool (neg != decide (z ∈ ss)))) := by
  unfold gInA gDin gIn inW inSeq inOk
  simp [seqOf, inD_s, flat_s, flatD]
theorem inD_i {z : Int} {ss : List Int} : inD (.int z) (ss.map .int) = decide (z ∈ ss) := by
  unfold inD
  induction ss with
  | nil => rfl
  | cons a ss ih =>
    rw [List.map_cons, List.any_cons, ih, eqv_int]
    by_cases h : a = z
    · subst h; simp
    · simp [h, Ne.symm h]
theorem flat_i {ss : List Int} : (ss.map PyData.int).all flatD = true := by
  induction ss with
  | nil => rfl
  | cons a ss ih => simpa [flatD] using ih
theorem gInA_iT {neg : Bool} {z : Int} {ss : List Int} : gInA neg os (.d (.int z)) (.d (.tuple (ss.map .int))) = some (.d (.bool (neg != decide (z ∈ ss)))) := by
  unfold gInA gDin gIn inW inSeq inOk
  simp [seqOf, inD_i, flat_i, flatD]
theorem datas_map : ∀ {xs : List PyData}, datas (xs.map .d) = some xs
  | [] => rfl
  | x :: xs => by rw [List.map_cons, datas, datas_map] <;> rfl
theorem tupO_d {xs : List PyData} (h : xs.length ≤ big) : tupO (xs.map .d) = some (.d (.tuple xs)) := by
  unfold tupO
  rw [datas_map, Option.bind_some, if_pos h]
theorem lstO_d {xs : List PyData} (h : xs.length ≤ big) : lstO (xs.map .d) = some (.d (.list xs)) := by
  unfold lstO
  rw [datas_map, Option.bind_some, if_pos h]
end
section
variable {a0 a1 a2 a3 a4 a5 a6 a7 a8 a9 a10 a11 a12 a13 a14 a15 a16 : PyData}
theorem tupO_0 : tupO [] = some (.d (.tuple [])) := by simp [tupO, datas, W.data?, big]
theorem tupO_1 : tupO [W.d a0] = some (.d (.tuple [a0])) := by simp [tupO, datas, W.data?, big]
theorem tupO_2 : tupO [W.d a0, W.d a1] = some (.d (.tuple [a0, a1])) := by simp [tupO, datas, W.data?, big]
theorem tupO_3 : tupO [W.d a0, W.d a1, W.d a2] = some (.d (.tuple [a0, a1, a2])) := by simp [tupO, datas, W.data?, big]
theorem tupO_4 : tupO [W.d a0, W.d a1, W.d a2, W.d a3] = some (.d (.tuple [a0, a1, a2, a3])) := by simp [tupO, datas, W.data?, big]
theorem tupO_5 : tupO [W.d a0, W.d a1, W.d a2, W.d a3, W.d a4] = some (.d (.tuple [a0, a1, a2, a3, a4])) := by simp [tupO, datas, W.data?, big]
theorem tupO_6 : tupO [W.d a0, W.d a1, W.d a2, W.d a3, W.d a4, W.d a5] = some (.d (.tuple [a0, a1, a2, a3, a4, a5])) := by simp [tupO, datas, W.data?, big]
theorem tupO_7 : tupO [W.d a0, W.d a1, W.d a2, W.d a3, W.d a4, W.d a5, W.d a6] = some (.d (.tuple [a0, a1, a2, a3, a4, a5, a6])) := by simp [tupO, datas, W.data?, big]
theorem tupO_8 : tupO [W.d a0, W.d a1, W.d a2, W.d a3, W.d a4, W.d a5, W.d a6, W.d a7] = some (.d (.tuple [a0, a1, a2, a3, a4, a5, a6, a7])) := by simp [tupO, datas, W.data?, big]
theorem tupO_9 : tupO [W.d a0, W.d a1, W.d a2, W.d a3, W.d a4, W.d a5, W.d a6, W.d a7, W.d a8] = some (.d (.tuple [a0, a1, a2, a3, a4, a5, a6, a7, a8])) := by simp [tupO, datas, W.data?, big]
theorem tupO_10 : tupO [W.d a0, W.d a1, W.d a2, W.d a3, W.d a4, W.d a5, W.d a6, W.d a7, W.d a8, W.d a9] = some (.d (.tuple [a0, a1, a2, a3, a4, a5, a6, a7, a8, a9])) := by simp [tupO, datas, W.data?, big]
theorem tupO_11 : tupO [W.d a0, W.d a1, W.d a2, W.d a3, W.d a4, W.d a5, W.d a6, W.d a7, W.d a8, W.d a9, W.d a10] = some (.d (.tuple [a0, a1, a2, a3, a4, a5, a6, a7, a8, a9, a10])) := by simp [tupO, datas, W.data?, big]
theorem tupO_12 : tupO [W.d a0, W.d a1, W.d a2, W.d a3, W.d a4, W.d a5, W.d a6, W.d a7, W.d a8, W.d a9, W.d a10, W.d a11] = some (.d (.tuple [a0, a1, a2, a3, a4, a5, a6, a7, a8, a9, a10, a11])) := by simp [tupO, datas, W.data?, big]
theorem tupO_13 : tupO [W.d a0, W.d a1, W.d a2, W.d a3, W.d a4, W.d a5, W.d a6, W.d a7, W.d a8, W.d a9, W.d a10, W.d a11, W.d a12] = some (.d (.tuple [a0, a1, a2, a3, a4, a5, a6, a7, a8, a9, a10, a11, a12])) := by simp [tupO, datas, W.data?, big]
theorem tupO_14 : tupO [W.d a0, W.d a1, W.d a2, W.d a3, W.d a4, W.d a5, W.d a6, W.d a7, W.d a8, W.d a9, W.d a10, W.d a11, W.d a12, W.d a13] = some (.d (.tuple [a0, a1, a2, a3, a4, a5, a6, a7, a8, a9, a10, a11, a12, a13])) := by simp [tupO, datas, W.data?, big]
theorem tupO_15 : tupO [W.d a0, W.d a1, W.d a2, W.d a3, W.d a4, W.d a5, W.d a6, W.d a7, W.d a8, W.d a9, W.d a10, W.d a11, W.d a12, W.d a13, W.d a14] = some (.d (.tuple [a0, a1, a2, a3, a4, a5, a6, a7, a8, a9, a10, a11, a12, a13, a14])) := by simp [tupO, datas, W.data?, big]
theorem tupO_16 : tupO [W.d a0, W.d a1, W.d a2, W.d a3, W.d a4, W.d a5, W.d a6, W.d a7, W.d a8, W.d a9, W.d a10, W.d a11, W.d a12, W.d a13, W.d a14, W.d a15] = some (.d (.tuple [a0, a1, a2, a3, a4, a5, a6, a7, a8, a9, a10, a11, a12, a13, a14, a15])) := by simp [tupO, datas, W.data?, big]
theorem lstO_0 : lstO [] = some (.d (.list [])) := by simp [lstO, datas, W.data?, big]
theorem lstO_1 : lstO [W.d a0] = some (.d (.list [a0])) := by simp [lstO, datas, W.data?, big]
theorem lstO_2 : lstO [W.d a0, W.d a1] = some (.d (.list [a0, a1])) := by simp [lstO, datas, W.data?, big]
theorem lstO_3 : lstO [W.d a0, W.d a1, W.d a2] = some (.d (.list [a0, a1, a2])) := by simp [lstO, datas, W.data?, big]
theorem lstO_4 : lstO [W.d a0, W.d a1, W.d a2, W.d a3] = some (.d (.list [a0, a1, a2, a3])) := by simp [lstO, datas, W.data?, big]
theorem lstO_5 : lstO [W.d a0, W.d a1, W.d a2, W.d a3, W.d a4] = some (.d (.list [a0, a1, a2, a3, a4])) := by simp [lstO, datas, W.data?, big]
theorem lstO_6 : lstO [W.d a0, W.d a1, W.d a2, W.d a3, W.d a4, W.d a5] = some (.d (.list [a0, a1, a2, a3, a4, a5])) := by simp [lstO, datas, W.data?, big]
theorem lstO_7 : lstO [W.d a0, W.d a1, W.d a2, W.d a3, W.d a4, W.d a5, W.d a6] = some (.d (.list [a0, a1, a2, a3, a4, a5, a6])) := by simp [lstO, datas, W.data?, big]
theorem lstO_8 : lstO [W.d a0, W.d a1, W.d a2, W.d a3, W.d a4, W.d a5, W.d a6, W.d a7] = some (.d (.list [a0, a1, a2, a3, a4, a5, a6, a7])) := by simp [lstO, datas, W.data?, big]
theorem lstO_9 : lstO [W.d a0, W.d a1, W.d a2, W.d a3, W.d a4, W.d a5, W.d a6, W.d a7, W.d a8] = some (.d (.list [a0, a1, a2, a3, a4, a5, a6, a7, a8])) := by simp [lstO, datas, W.data?, big]
theorem lstO_10 : lstO [W.d a0, W.d a1, W.d a2, W.d a3, W.d a4, W.d a5, W.d a6, W.d a7, W.d a8, W.d a9] = some (.d (.list [a0, a1, a2, a3, a4, a5, a6, a7, a8, a9])) := by simp [lstO, datas, W.data?, big]
theorem lstO_11 : lstO [W.d a0, W.d a1, W.d a2, W.d a3, W.d a4, W.d a5, W.d a6, W.d a7, W.d a8, W.d a9, W.d a10] = some (.d (.list [a0, a1, a2, a3, a4, a5, a6, a7, a8, a9, a10])) := by simp [lstO, datas, W.data?, big]
theorem lstO_12 : lstO [W.d a0, W.d a1, W.d a2, W.d a3, W.d a4, W.d a5, W.d a6, W.d a7, W.d a8, W.d a9, W.d a10, W.d a11] = some (.d (.list [a0, a1, a2, a3, a4, a5, a6, a7, a8, a9, a10, a11])) := by simp [lstO, datas, W.data?, big]
theorem lstO_13 : lstO [W.d a0, W.d a1, W.d a2, W.d a3, W.d a4, W.d a5, W.d a6, W.d a7, W.d a8, W.d a9, W.d a10, W.d a11, W.d a12] = some (.d (.list [a0, a1, a2, a3, a4, a5, a6, a7, a8, a9, a10, a11, a12])) := by simp [lstO, datas, W.data?, big]
theorem lstO_14 : lstO [W.d a0, W.d a1, W.d a2, W.d a3, W.d a4, W.d a5, W.d a6, W.d a7, W.d a8, W.d a9, W.d a10, W.d a11, W.d a12, W.d a13] = some (.d (.list [a0, a1, a2, a3, a4, a5, a6, a7, a8, a9, a10, a11, a12, a13])) := by simp [lstO, datas, W.data?, big]
theorem lstO_15 : lstO [W.d a0, W.d a1, W.d a2, W.d a3, W.d a4, W.d a5, W.d a6, W.d a7, W.d a8, W.d a9, W.d a10, W.d a11, W.d a12, W.d a13, W.d a14] = some (.d (.list [a0, a1, a2, a3, a4, a5, a6, a7, a8, a9, a10, a11, a12, a13, a14])) := by simp [lstO, datas, W.data?, big]
theorem lstO_16 : lstO [W.d a0, W.d a1, W.d a2, W.d a3, W.d a4, W.d a5, W.d a6, W.d a7, W.d a8, W.d a9, W.d a10, W.d a11, W.d a12, W.d a13, W.d a14, W.d a15] = some (.d (.list [a0, a1, a2, a3, a4, a5, a6, a7, a8, a9, a10, a11, a12, a13, a14, a15])) := by simp [lstO, datas, W.data?, big]
end
theorem gInA_s2T {os : List Ob} {neg : Bool} {z a b : Str} : gInA neg os (.d (.str z)) (.d (.tuple [.str a, .str b])) = some (.d (.bool (neg != (decide (z = a) || decide (z = b))))) := by
  have := gInA_sT (os := os) (neg := neg) (z := z) (ss := [a, b])
  rw [List.map_cons, List.map_cons, List.map_nil] at this
  rw [this]
  congr 4
  by_cases h1 : z = a <;> by_cases h2 : z = b <;> simp [h1, h2]
theorem gInA_s2L {os : List Ob} {neg : Bool} {z a b : Str} : gInA neg os (.d (.str z)) (.d (.list [.str a, .str b])) = some (.d (.bool (neg != (decide (z = a) || decide (z = b))))) := by
  have := gInA_sL (os := os) (neg := neg) (z := z) (ss := [a, b])
  rw [List.map_cons, List.map_cons, List.map_nil] at this
  rw [this]
  congr 4
  by_cases h1 : z = a <;> by_cases h2 : z = b <;> simp [h1, h2]
theorem gInA_i2T {os : List Ob} {neg : Bool} {z a b : Int} : gInA neg os (.d (.int z)) (.d (.tuple [.int a, .int b])) = some (.d (.bool (neg != (decide (z = a) || decide (z = b))))) := by
  have := gInA_iT (os := os) (neg := neg) (z := z) (ss := [a, b])
  rw [List.map_cons, List.map_cons, List.map_nil] at this
  rw [this]
  congr 4
  by_cases h1 : z = a <;> by_cases h2 : z = b <;> simp [h1, h2]
theorem isT_bool_NoneType : isT "bool" "NoneType" = false := by decide
theorem isT_bool_bool : isT "bool" "bool" = true := by decide
theorem isT_bool_int : isT "bool" "int" = false := by decide
theorem isT_bool_str : isT "bool" "str" = false := by decide
theorem isT_bool_tuple : isT "bool" "tuple" = false := by decide
theorem isT_bool_list : isT "bool" "list" = false := by decide
theorem isT_bool_dict : isT "bool" "dict" = false := by decide
theorem isT_int_NoneType : isT "int" "NoneType" = false := by decide
theorem isT_int_bool : isT "int" "bool" = true := by decide
theorem isT_int_int : isT "int" "int" = true := by decide
theorem isT_int_str : isT "int" "str" = false := by decide
theorem isT_int_tuple : isT "int" "tuple" = false := by decide
theorem isT_int_list : isT "int" "list" = false := by decide
theorem isT_int_dict : isT "int" "dict" = false := by decide
theorem isT_str_NoneType : isT "str" "NoneType" = false := by decide
theorem isT_str_bool : isT "str" "bool" = false := by decide
theorem isT_str_int : isT "str" "int" = false := by decide
theorem isT_str_str : isT "str" "str" = true := by decide
theorem isT_str_tuple : isT "str" "tuple" = false := by decide
theorem isT_str_list : isT "str" "list" = false := by decide
theorem isT_str_dict : isT "str" "dict" = false := by decide
theorem isT_tuple_NoneType : isT "tuple" "NoneType" = false := by decide
theorem isT_tuple_bool : isT "tuple" "bool" = false := by decide
theorem isT_tuple_int : isT "tuple" "int" = false := by decide
theorem isT_tuple_str : isT "tuple" "str" = false := by decide
theorem isT_tuple_tuple : isT "tuple" "tuple" = true := by decide
theorem isT_tuple_list : isT "tuple" "list" = false := by decide
theorem isT_tuple_dict : isT "tuple" "dict" = false := by decide
theorem isT_list_NoneType : isT "list" "NoneType" = false := by decide
theorem isT_list_bool : isT "list" "bool" = false := by decide
theorem isT_list_int : isT "list" "int" = false := by decide
theorem isT_list_str : isT "list" "str" = false := by decide
theorem isT_list_tuple : isT "list" "tuple" = false := by decide
theorem isT_list_list : isT "list" "list" = true := by decide
theorem isT_list_dict : isT "list" "dict" = false := by decide
theorem isT_dict_NoneType : isT "dict" "NoneType" = false := by decide
theorem isT_dict_bool : isT "dict" "bool" = false := by decide
theorem isT_dict_int : isT "dict" "int" = false := by decide
theorem isT_dict_str : isT "dict" "str" = false := by decide
theorem isT_dict_tuple : isT "dict" "tuple" = false := by decide
theorem isT_dict_list : isT "dict" "list" = false := by decide
theorem isT_dict_dict : isT "dict" "dict" = true := by decide
theorem tyD_none : tyD .none = "NoneType" := rfl
theorem tyD_bool {b : Bool} : tyD (.bool b) = "bool" := rfl
theorem tyD_int {i : Int} : tyD (.int i) = "int" := rfl
theorem tyD_str {z : Str} : tyD (.str z) = "str" := rfl
theorem tyD_tuple {xs : List PyData} : tyD (.tuple xs) = "tuple" := rfl
theorem tyD_list {xs : List PyData} : tyD (.list xs) = "list" := rfl
theorem tyD_dict {xs : List (PyData × PyData)} : tyD (.dict xs) = "dict" := rfl
/-! ### small defs -/
def isNum : PyData → Bool
  | .int _ => true
  | _ => false
theorem F_is_number_eq {x : PyData} {os : List Ob} : F_is_number [.d x] os = some (.ok (.d (.bool (isNum x))) os []) := by
  refine run_of ?_
  unfold b_is_number
  walk_at "wp"
  cases x <;> simp [gIs_d, isT, tyD, truth_b, wpo_some, fin_d, allNew_nil, isNum]
def isBelow (m : Int) : PyData → Bool
  | .int i => decide (0 ≤ i) && decide (i < m)
  | _ => false
theorem F_is_below_eq {x : PyData} {m : Int} {os : List Ob} : F_is_below [.d x, .d (.int m)] os = some (.ok (.d (.bool (isBelow m x))) os []) := by
  refine run_of ?_
  unfold b_is_below
  walk_at "wp"
  simp only [F_is_number_eq]
  walk_at "wp"
  cases x with
  | int i => by_cases h : 0 ≤ i <;> simp [gLe_i, gLt_i, boolW_b, truth_b, wpo_some, fin_d, allNew_nil, isNum, isBelow, h]
  | _ => simp [truth_b, wpo_some, fin_d, allNew_nil, isNum, isBelow]
/-- a comprehension whose elements change nothing -/
theorem compL_pure {t : Tg} {c : FM Bool} {e : FM W} {sl : List (Option W)} {f : PyData → List PyData} {s : AS} {xs : List PyData}
    (h : ∀ x ∈ xs, wpo (tgS t (.d x) ⟨sl, s.os, s.es⟩) fun s2 => wp c s2 (fun b s3 => (b = true → wp e s3 (fun y s4 => ∃ z, y = .d z ∧ s4.os = s.os ∧ s4.es = s.es ∧ f x = [z]) fun _ _ => False) ∧ (b = false → s3.os = s.os ∧ s3.es = s.es ∧ f x = [])) fun _ _ => False) :
    ∃ sl1, compL t c e sl (xs.map .d) s = some (⟨sl1, s.os, s.es⟩, xs.flatMap f) := by
  obtain ⟨sl0, os, es⟩ := s
  refine compL_map fun x hx sl0 => ?_
  have h := h x hx
  unfold wpo at h
  unfold comp1
  dsimp only at h ⊢
  cases q : tgS t (.d x) ⟨sl, os, es⟩ with
  | none => rw [q] at h; exact h.elim
  | some s1 =>
    rw [q] at h
    dsimp only [Option.bind] at h ⊢
    unfold wp at h
    cases q1 : c s1 with
    | none => rw [q1] at h; exact h.elim
    | some o =>
      rw [q1] at h
      cases o with
      | ex x s2 => exact h.elim
      | ok b s2 =>
        obtain ⟨h1, h2⟩ := h
        cases b with
        | false =>
          obtain ⟨e1, e2, e3⟩ := h2 rfl
          obtain ⟨sl2, os2, es2⟩ := s2
          dsimp only at e1 e2
          subst e1 e2
          exact ⟨sl2, by rw [e3]⟩
        | true =>
          have h1 := h1 rfl
          dsimp only
          cases q2 : e s2 with
          | none => rw [q2] at h1; exact h1.elim
          | some o2 =>
            rw [q2] at h1
            cases o2 with
            | ex x s3 => exact h1.elim
            | ok y s3 =>
              obtain ⟨z, rfl, e1, e2, e3⟩ := h1
              obtain ⟨sl3, os3, es3⟩ := s3
              dsimp only at e1 e2
              subst e1 e2
              exact ⟨sl3, by rw [e3]⟩
theorem wp_comp_pure {mi : FM (List W)} {t : Tg} {own : List Nat} {c : FM Bool} {e : FM W} {s : AS} {Q : W → AS → Prop} {X : Ex → AS → Prop} (f : PyData → List PyData) (xs : List PyData)
    (h : wp mi s (fun ws s1 => ws = xs.map .d ∧ (∀ x ∈ xs, wpo (tgS t (.d x) ⟨wipeS s1.sl own, s1.os, s1.es⟩) fun s2 => wp c s2 (fun b s3 => (b = true → wp e s3 (fun y s4 => ∃ z, y = .d z ∧ s4.os = s1.os ∧ s4.es = s1.es ∧ f x = [z]) fun _ _ => False) ∧ (b = false → s3.os = s1.os ∧ s3.es = s1.es ∧ f x = [])) fun _ _ => False) ∧
      (xs.flatMap f).length ≤ big ∧ Q (.d (.list (xs.flatMap f))) s1) X) : wp (mComp mi t own c e) s Q X := by
  rw [wp_comp]
  refine wp_mono h (fun ws s1 ⟨e1, h1, h2, h3⟩ => ?_) fun _ _ z => z
  subst e1
  obtain ⟨sl1, e2⟩ := compL_pure h1
  rw [e2, wpo_some]
  exact ⟨h2, h3⟩
theorem flatMap_one {α β : Type} {f : α → β} : ∀ xs : List α, xs.flatMap (fun x => [f x]) = xs.map f
  | [] => rfl
  | x :: xs => by rw [List.flatMap_cons, flatMap_one xs] <;> rfl
theorem flatMap_if {α : Type} {p : α → Bool} : ∀ xs : List α, xs.flatMap (fun x => if p x = true then [x] else []) = xs.filter p
  | [] => rfl
  | x :: xs => by
    rw [List.flatMap_cons, flatMap_if xs, List.filter_cons]
    split <;> rfl
/-! ### names -/
theorem F_is_figure_eq {x : PyData} {os : List Ob} : F_is_figure [.d x] os = some (.ok (.d (.bool (isBelow 8 x))) os []) := by
  refine run_of ?_
  unfold b_is_figure k_MOST_NUMBER
  walk_at "wp"
  simp only [gAdd_i, wpo_some, F_is_below_eq, post_ok, ends_rt, fin_d, allNew_nil, if_true, List.take_length, List.append_nil]
  rfl
/-- the head of a value -/
def hd : PyData → Str
  | .tuple (.str h :: _) => h
  | _ => ""
theorem F_headed_eq {x : PyData} {os : List Ob} : F_headed [.d x] os = some (.ok (.d (.str (hd x))) os []) := by
  refine run_of ?_
  unfold b_headed
  walk_at "wp"
  match x with
  | .tuple [] => simp [gIs_d, isT, tyD, truth_b, truth_t, wpo_some, fin_d, allNew_nil, hd]
  | .tuple (y :: r) =>
    have h0 : atI (y :: r) 0 = some y := by
      unfold atI ixN
      simp
    cases y <;> simp [gIs_d, isT, tyD, truth_b, truth_t, wpo_some, fin_d, allNew_nil, hd, gIxA_t, h0]
  | .none | .bool _ | .int _ | .str _ | .list _ | .dict _ => simp [gIs_d, isT, tyD, truth_b, wpo_some, fin_d, allNew_nil, hd]
def letterB (c : Nat) : Bool := inS ⟨#[c]⟩ "abcdefghijklmnopqrstuvwxyz"
def madeB (z : Str) : Bool := (decide (1 ≤ z.length) && decide (z.length ≤ 8)) && z.cps.toList.all letterB
def kept0 : List Str := ["ask", "as", "be", "bind", "book", "do", "done", "each", "else", "fail"]
def kept1 : List Str := ["first", "form", "get", "here", "if", "in", "into", "less", "let", "means"]
def kept2 : List Str := ["next", "no", "or", "pair", "part", "plus", "put", "rest", "row", "second"]
def kept3 : List Str := ["show", "then", "try", "upon", "use", "while", "with", "yes"]
def kept : List Str := kept0 ++ (kept1 ++ (kept2 ++ (kept3)))
def isNm : PyData → Bool
  | .str z => madeB z && !decide (z ∈ kept)
  | _ => false
theorem bools_map : ∀ bs : List Bool, boolsD (bs.map .bool) = some bs
  | [] => rfl
  | b :: bs => by rw [List.map_cons, boolsD, bools_map bs] <;> rfl
theorem F_made_eq {x : PyData} {os : List Ob} (hs : ∀ z, x = .str z → z.length ≤ big) : F__is_made_of [.d x, .d k_LETTERS] os = some (.ok (.d (.bool (match x with | .str z => madeB z | _ => false))) os []) := by
  refine run_of ?_
  unfold b__is_made_of k_LETTERS k_LONGEST
  walk_at "wp"
  cases x with
  | str z =>
    have hz := hs z rfl
    simp only [gIs_d, isT, tyD, wpo_some, truth_b, gLen, if_pos hz, gLe_i, boolW_b]
    by_cases h1 : (1 : Int) ≤ (z.length : Int)
    · by_cases h2 : (z.length : Int) ≤ 8
      · have h8 : z.length ≤ 8 := by omega
        have h9 : 1 ≤ z.length := by omega
        simp [h1, h2]
        refine wp_comp_pure (fun x => match x with | .str c => [.bool (inS c "abcdefghijklmnopqrstuvwxyz")] | _ => []) (signs z) ?_
        walk_at "wp"
        simp only [seqW, seqD, Option.map_some, wpo_some, true_and]
        have e : (signs z).flatMap (fun x => match x with | .str c => [PyData.bool (inS c "abcdefghijklmnopqrstuvwxyz")] | _ => []) = (z.cps.toList.map letterB).map .bool := by
          unfold signs
          generalize z.cps.toList = l
          induction l with
          | nil => rfl
          | cons c l ih => rw [List.map_cons, List.flatMap_cons, ih] <;> rfl
        refine ⟨fun x hx => ?_, ?_, ?_⟩
        · obtain ⟨c, _, rfl⟩ := List.mem_map.mp hx
          simp [tgS, wipeS, gInA, gDin, gIn, inW, inStr, wpo_some]
        · rw [e]
          simp only [List.length_map]
          have : z.cps.toList.length = z.length := by simp [Str.length]
          omega
        · rw [e]
          have : madeB z = z.cps.toList.all letterB := by
            unfold madeB
            simp [h9, h8]
          have e2 : gAll os [W.d (.list ((z.cps.toList.map letterB).map .bool))] = some (.d (.bool (z.cps.toList.all letterB))) := by
            show (boolsD ((z.cps.toList.map letterB).map .bool)).map (fun (bs : List Bool) => W.d (.bool (bs.all id))) = _
            rw [bools_map, Option.map_some, List.all_map] <;> rfl
          rw [e2, wpo_some, fin_d, allNew_nil, this]
          simp
      · have h8 : ¬ z.length ≤ 8 := by omega
        simp [h1, h2, fin_d, allNew_nil, madeB, h8]
    · have h9 : ¬ 1 ≤ z.length := by omega
      simp [h1, fin_d, allNew_nil, madeB, h9]
  | _ => simp [gIs_d, isT, tyD, truth_b, wpo_some, fin_d, allNew_nil]
theorem F_is_name_eq {x : PyData} {os : List Ob} (hs : ∀ z, x = .str z → z.length ≤ big) : F_is_name [.d x] os = some (.ok (.d (.bool (isNm x))) os []) := by
  refine run_of ?_
  unfold b_is_name
  walk_at "wp"
  simp only [F_made_eq hs]
  walk_at "wp"
  have ek : k_KEPT = .tuple (kept.map .str) := rfl
  rw [ek]
  cases x with
  | str z => by_cases h : madeB z = true <;> simp [h, truth_b, wpo_some, fin_d, allNew_nil, isNm, gInA_sT]
  | _ => simp [truth_b, wpo_some, fin_d, allNew_nil, isNm]
/-! ### trees judged -/
mutual
def sz : PyData → Nat
  | .tuple xs => 1 + szs xs
  | .str z => 1 + z.length
  | _ => 1
def szs : List PyData → Nat
  | [] => 0
  | x :: xs => sz x + szs xs
end
theorem szs_append : ∀ xs ys : List PyData, szs (xs ++ ys) = szs xs + szs ys
  | [], ys => by simp [szs]
  | x :: xs, ys => by rw [List.cons_append, szs, szs_append xs ys, szs]; omega
theorem sz_pos (x : PyData) : 1 ≤ sz x := by
  cases x <;> simp [sz] <;> omega
theorem szs_len : ∀ xs : List PyData, xs.length ≤ szs xs
  | [] => by simp [szs]
  | x :: xs => by have := szs_len xs; have := sz_pos x; rw [szs, List.length_cons]; omega
def isTr (p : Int) : PyData → Bool
  | .tuple [.str h] => decide (h = "yes") || decide (h = "no")
  | .tuple [.str h, n] => decide (h = "fails") && isNm n
  | .tuple [.str h, n, a] => decide (h = "shows") && (isBelow 8 n && isTr p a)
  | .tuple [.str h, n, a, b] => decide (h = "does") && (isBelow p n && (isTr p a && isTr p b))
  | _ => false
theorem hd_some {y : PyData} {h : Str} (e : hd y = h) (n : h ≠ "") : ∃ r, y = .tuple (.str h :: r) := by
  unfold hd at e
  split at e
  · subst e; exact ⟨_, rfl⟩
  · exact absurd e.symm n
theorem isTr_hd {p : Int} {y : PyData} (h : isTr p y = true) : hd y = "yes" ∨ hd y = "no" ∨ hd y = "fails" ∨ hd y = "shows" ∨ hd y = "does" := by
  unfold isTr at h
  split at h
  · simp at h; rcases h with h | h <;> subst h <;> simp [hd]
  · simp at h; obtain ⟨h, _⟩ := h; subst h; simp [hd]
  · simp at h; obtain ⟨h, _⟩ := h; subst h; simp [hd]
  · simp at h; obtain ⟨h, _⟩ := h; subst h; simp [hd]
  · cases h
theorem atI_0 {α : Type} {x : α} {r : List α} : atI (x :: r) 0 = some x := by
  unfold atI ixN; simp
theorem atI_1 {α : Type} {x y : α} {r : List α} : atI (x :: y :: r) 1 = some y := by
  have : (1 : Int) < (r.length : Int) + 1 + 1 := by omega
  unfold atI ixN; simp [this]
theorem atI_2 {α : Type} {x y z : α} {r : List α} : atI (x :: y :: z :: r) 2 = some z := by
  have : (2 : Int) < (r.length : Int) + 1 + 1 + 1 := by omega
  unfold atI ixN; simp [this]
theorem atI_3 {α : Type} {x y z w : α} {r : List α} : atI (x :: y :: z :: w :: r) 3 = some w := by
  have : (3 : Int) < (r.length : Int) + 1 + 1 + 1 + 1 := by omega
  unfold atI ixN; simp [this]
theorem gLen_t {os : List Ob} {xs : List PyData} : gLen os [.d (.tuple xs)] = some (.d (.int xs.length)) := rfl
theorem gLen_l {os : List Ob} {xs : List PyData} : gLen os [.d (.list xs)] = some (.d (.int xs.length)) := rfl
theorem cut2 {os : List Ob} {a b : PyData} {r : List PyData} : gSl os (some 2) none (.d (.tuple (a :: b :: r))) = some (.d (.tuple r)) := by
  show some (W.d (.tuple (cutL (a :: b :: r) (some 2) none))) = _
  unfold cutL HT.sIx
  simp
theorem get_last {α : Type} {l : List α} {x : α} : (l ++ [x])[l.length]? = some x := by simp
theorem set_last {α : Type} {l : List α} {x y : α} : (l ++ [x]).set l.length y = l ++ [y] := by simp
theorem gPop_last {os : List Ob} {n : Nat} {us : List W} {u : W} (h : os[n]? = some (.lst (us ++ [u]))) : gPop os (.obj n) [] = some (u, os.set n (.lst us), []) := by
  unfold gPop listO
  simp [h, itemsO]
theorem isLst_of {os : List Ob} {n : Nat} {us : List W} (h : os[n]? = some (.lst us)) : isLst os (.obj n) = true := by
  unfold isLst
  simp [h]
theorem gExt_of {os : List Ob} {n : Nat} {us : List W} {u : W} {xs : List PyData} (h : os[n]? = some (.lst us)) (hu : seqOf os u = some xs) (hl : us.length + xs.length ≤ big) : gExtend os (.obj n) [u] = some (.d .none, os.set n (.lst (us ++ xs.map .d)), []) := by
  unfold gExtend listO
  simp [h, hu, hl, itemsO]
theorem gApp_of {os : List Ob} {n : Nat} {us : List W} {x : PyData} (h : os[n]? = some (.lst us)) (hl : us.length < big) : gAppend os (.obj n) [.d x] = some (.d .none, os.set n (.lst (us ++ [.d x])), []) := by
  unfold gAppend listO
  simp [h, hl, esOf, itemsO]
theorem truth_o {os : List Ob} {n : Nat} {us : List W} (h : os[n]? = some (.lst us)) : truthW os (.obj n) = some (!us.isEmpty) := by
  unfold truthW truthO
  simp [h]
theorem cons_last {α : Type} (l : List α) (h : l ≠ []) : ∃ ys y, l = ys ++ [y] := ⟨l.dropLast, l.getLast h, (List.dropLast_concat_getLast h).symm⟩
theorem rest_last {α : Type} {l : List α} {x : α} : (l ++ [x]).take l.length = l := by simp
theorem sz_str {z : Str} {n : Nat} (h : sz (.str z) ≤ n) : z.length ≤ n := by
  simp [sz] at h; omega
theorem ne_yes_no : (("yes" : Str) = "no") = False := eq_false (by decide)
theorem ne_yes_fails : (("yes" : Str) = "fails") = False := eq_false (by decide)
theorem ne_yes_shows : (("yes" : Str) = "shows") = False := eq_false (by decide)
theorem ne_yes_does : (("yes" : Str) = "does") = False := eq_false (by decide)
theorem ne_yes_wants : (("yes" : Str) = "wants") = False := eq_false (by decide)
theorem ne_no_yes : (("no" : Str) = "yes") = False := eq_false (by decide)
theorem ne_no_fails : (("no" : Str) = "fails") = False := eq_false (by decide)
theorem ne_no_shows : (("no" : Str) = "shows") = False := eq_false (by decide)
theorem ne_no_does : (("no" : Str) = "does") = False := eq_false (by decide)
theorem ne_no_wants : (("no" : Str) = "wants") = False := eq_false (by decide)
theorem ne_fails_yes : (("fails" : Str) = "yes") = False := eq_false (by decide)
theorem ne_fails_no : (("fails" : Str) = "no") = False := eq_false (by decide)
theorem ne_fails_shows : (("fails" : Str) = "shows") = False := eq_false (by decide)
theorem ne_fails_does : (("fails" : Str) = "does") = False := eq_false (by decide)
theorem ne_fails_wants : (("fails" : Str) = "wants") = False := eq_false (by decide)
theorem ne_shows_yes : (("shows" : Str) = "yes") = False := eq_false (by decide)
theorem ne_shows_no : (("shows" : Str) = "no") = False := eq_false (by decide)
theorem ne_shows_fails : (("shows" : Str) = "fails") = False := eq_false (by decide)
theorem ne_shows_does : (("shows" : Str) = "does") = False := eq_false (by decide)
theorem ne_shows_wants : (("shows" : Str) = "wants") = False := eq_false (by decide)
theorem ne_does_yes : (("does" : Str) = "yes") = False := eq_false (by decide)
theorem ne_does_no : (("does" : Str) = "no") = False := eq_false (by decide)
theorem ne_does_fails : (("does" : Str) = "fails") = False := eq_false (by decide)
theorem ne_does_shows : (("does" : Str) = "shows") = False := eq_false (by decide)
theorem ne_does_wants : (("does" : Str) = "wants") = False := eq_false (by decide)
theorem ne_wants_yes : (("wants" : Str) = "yes") = False := eq_false (by decide)
theorem ne_wants_no : (("wants" : Str) = "no") = False := eq_false (by decide)
theorem ne_wants_fails : (("wants" : Str) = "fails") = False := eq_false (by decide)
theorem ne_wants_shows : (("wants" : Str) = "shows") = False := eq_false (by decide)
theorem ne_wants_does : (("wants" : Str) = "does") = False := eq_false (by decide)
theorem isTr_len3 {p : Int} {r : List PyData} (h : r.length ≠ 3) : isTr p (.tuple (.str "does" :: r)) = false := by
  match r, h with
  | [], _ => simp [isTr, ne_does_yes, ne_does_no]
  | [_], _ => simp [isTr, ne_does_fails]
  | [_, _], _ => simp [isTr, ne_does_shows]
  | [_, _, _], h => simp at h
  | _ :: _ :: _ :: _ :: _, _ => simp [isTr]
theorem isTr_len2 {p : Int} {r : List PyData} (h : r.length ≠ 2) : isTr p (.tuple (.str "shows" :: r)) = false := by
  match r, h with
  | [], _ => simp [isTr, ne_shows_yes, ne_shows_no]
  | [_], _ => simp [isTr, ne_shows_fails]
  | [_, _], h => simp at h
  | [_, _, _], _ => simp [isTr, ne_shows_does]
  | _ :: _ :: _ :: _ :: _, _ => simp [isTr]
theorem isTr_len1 {p : Int} {r : List PyData} (h : r.length ≠ 1) : isTr p (.tuple (.str "fails" :: r)) = false := by
  match r, h with
  | [], _ => simp [isTr, ne_fails_yes, ne_fails_no]
  | [_], h => simp at h
  | [_, _], _ => simp [isTr, ne_fails_shows]
  | [_, _, _], _ => simp [isTr, ne_fails_does]
  | _ :: _ :: _ :: _ :: _, _ => simp [isTr]
theorem isTr_other {p : Int} {y : PyData} (h1 : hd y ≠ "does") (h2 : hd y ≠ "shows") (h3 : hd y ≠ "fails") (h4 : ¬ (hd y = "yes" ∨ hd y = "no")) : isTr p y = false := by
  cases q : isTr p y with
  | false => rfl
  | true => rcases isTr_hd q with h | h | h | h | h <;> simp_all
theorem isTr_yn {p : Int} {r : List PyData} {h : Str} (hh : h = "yes" ∨ h = "no") : isTr p (.tuple (.str h :: r)) = r.isEmpty := by
  match r with
  | [] => simp [isTr, hh]
  | [_] => rcases hh with rfl | rfl <;> simp [isTr, ne_yes_fails, ne_no_fails]
  | [_, _] => rcases hh with rfl | rfl <;> simp [isTr, ne_yes_shows, ne_no_shows]
  | [_, _, _] => rcases hh with rfl | rfl <;> simp [isTr, ne_yes_does, ne_no_does]
  | _ :: _ :: _ :: _ :: _ => simp [isTr]
local macro_rules | `(tactic| walk_at "wq") => `(tactic| simp only [wp_var, wp_C, wp_nil, wp_cons, wp_op1, wp_op2, wp_opn, wp_tup, wp_lst, wp_box, wp_truth, wp_bool, wp_andT, wp_orT, wp_notT, wp_andV, wp_orV, wp_notV, wp_ifE, wp_seq, nxt_nx, nxt_rt, nxt_bk, nxt_ct, wp_next, wp_brk, wp_cnt, wp_expr, wp_ret, wp_retN, wp_if, wp_asg, wp_gset, wp_par, wp_sub, wp_setFld, wp_call, wp_meth, wp_make, wp_chain, wp_noP, wp_part, wp_sl, wp_rev, wp_ef, wp_new, wp_it, wp_rng, wp_frz, wp_for, wp_tupF, wp_nilF, wp_consF, wp_yes, wpo_some, wpo_none, post_ok, post_ex, start0_eq, ends_nx, ends_rt, List.getElem?_cons_zero, List.getElem?_cons_succ, List.set_cons_zero, List.set_cons_succ, List.map_cons, List.map_nil, List.length_cons, List.length_nil, List.cons_append, List.nil_append, List.append_nil, Nat.sub_self, Nat.zero_add, Nat.reduceAdd, Nat.reduceSub, List.replicate_succ, List.replicate_zero, true_and, and_true, forall_const, reduceCtorEq, false_implies, implies_true, Bool.true_eq_false, Bool.false_eq_true, Bool.not_true, Bool.not_false, tupO_0, tupO_1, tupO_2, tupO_3, tupO_4, tupO_5, tupO_6, tupO_7, tupO_8, tupO_9, tupO_10, tupO_11, tupO_12, tupO_13, tupO_14, tupO_15, tupO_16, lstO_0, lstO_1, lstO_2, lstO_3, lstO_4, lstO_5, lstO_6, lstO_7, lstO_8, lstO_9, lstO_10, lstO_11, lstO_12, lstO_13, lstO_14, lstO_15, lstO_16, gInA_s2T, gInA_s2L, gInA_i2T, gIs_d, truth_b, truth_t, boolW_b, intW_i, gIxA_t, gIxA_l, gAdd_i, gLe_i, gLt_i, gGt_i, gGe_i, gMinus_i, gEqA_s, gEqA_i, gNe_i, gNe_s, gLen_t, gLen_l, atI_0, atI_1, atI_2, atI_3, cut2, Option.map_some, Option.bind_some, decide_true, decide_false, Bool.not_true, Bool.not_false, Bool.and_true, Bool.true_and, Bool.and_false, Bool.false_and, Bool.or_true, Bool.or_false, Bool.true_or, Bool.false_or, fin_d, allNew_nil, if_true, List.take_length, set_last, rest_last, Bool.bne_true, Bool.true_bne, Bool.false_bne, Bool.bne_false, turn_nx, turn_rt, turn_ct, turn_bk, eq_self, Bool.and_self, Bool.or_self])
local macro_rules | `(tactic| walk_at "wt") => `(tactic| simp only [wp_var, wp_C, wp_nil, wp_cons, wp_op1, wp_op2, wp_opn, wp_tup, wp_lst, wp_box, wp_truth, wp_bool, wp_andT, wp_orT, wp_notT, wp_andV, wp_orV, wp_notV, wp_ifE, wp_seq, nxt_nx, nxt_rt, nxt_bk, nxt_ct, wp_next, wp_brk, wp_cnt, wp_expr, wp_ret, wp_retN, wp_if, wp_asg, wp_gset, wp_par, wp_sub, wp_setFld, wp_call, wp_meth, wp_make, wp_chain, wp_noP, wp_part, wp_sl, wp_rev, wp_ef, wp_new, wp_it, wp_rng, wp_frz, wp_for, wp_tupF, wp_nilF, wp_consF, wp_yes, wpo_some, wpo_none, post_ok, post_ex, start0_eq, ends_nx, ends_rt, List.getElem?_cons_zero, List.getElem?_cons_succ, List.set_cons_zero, List.set_cons_succ, List.map_cons, List.map_nil, List.length_cons, List.length_nil, List.cons_append, List.nil_append, List.append_nil, Nat.sub_self, Nat.zero_add, Nat.reduceAdd, Nat.reduceSub, List.replicate_succ, List.replicate_zero, true_and, and_true, forall_const, reduceCtorEq, false_implies, implies_true, Bool.true_eq_false, Bool.false_eq_true, Bool.not_true, Bool.not_false, tupO_0, tupO_1, tupO_2, tupO_3, tupO_4, tupO_5, tupO_6, tupO_7, tupO_8, tupO_9, tupO_10, tupO_11, tupO_12, tupO_13, tupO_14, tupO_15, tupO_16, lstO_0, lstO_1, lstO_2, lstO_3, lstO_4, lstO_5, lstO_6, lstO_7, lstO_8, lstO_9, lstO_10, lstO_11, lstO_12, lstO_13, lstO_14, lstO_15, lstO_16, gInA_s2T, gInA_s2L, gInA_i2T, gIs_d, truth_b, truth_t, boolW_b, intW_i, gIxA_t, gIxA_l, gAdd_i, gLe_i, gLt_i, gGt_i, gGe_i, gMinus_i, gEqA_s, gEqA_i, gNe_i, gNe_s, gLen_t, gLen_l, atI_0, atI_1, atI_2, atI_3, cut2, Option.map_some, Option.bind_some, decide_true, decide_false, Bool.not_true, Bool.not_false, Bool.and_true, Bool.true_and, Bool.and_false, Bool.false_and, Bool.or_true, Bool.or_false, Bool.true_or, Bool.false_or, fin_d, allNew_nil, if_true, List.take_length, set_last, rest_last, Bool.bne_true, Bool.true_bne, Bool.false_bne, Bool.bne_false, turn_nx, turn_rt, turn_ct, turn_bk, eq_self, Bool.and_self, Bool.or_self, ne_yes_no, ne_yes_fails, ne_yes_shows, ne_yes_does, ne_yes_wants, ne_no_yes, ne_no_fails, ne_no_shows, ne_no_does, ne_no_wants, ne_fails_yes, ne_fails_no, ne_fails_shows, ne_fails_does, ne_fails_wants, ne_shows_yes, ne_shows_no, ne_shows_fails, ne_shows_does, ne_shows_wants, ne_does_yes, ne_does_no, ne_does_fails, ne_does_shows, ne_does_wants, ne_wants_yes, ne_wants_no, ne_wants_fails, ne_wants_shows, ne_wants_does])
set_option maxHeartbeats 8000000 in
theorem F_tree_over_eq {p : Int} {x : PyData} {os : List Ob} (hx : sz x ≤ big) : F_is_tree_over [.d (.int p), .d x] os = some (.ok (.d (.bool (isTr p x))) os []) := by
  refine run_of ?_
  unfold b_is_tree_over
  walk_at "wp"
  refine ⟨by decide, ?_⟩
  refine wp_while (fun n s => ∃ xs h1 h2, s = ⟨[some (.d (.int p)), some (.d x), some (.obj os.length), h1, h2], os ++ [.lst (xs.map .d)], []⟩ ∧ szs xs = n ∧ n ≤ big ∧ isTr p x = xs.all (isTr p)) (n := sz x) ⟨[x], none, none, rfl, by simp [szs], hx, by simp⟩ ?_
  rintro n s ⟨xs, h1, h2, rfl, hn, hb, hr⟩
  walk_at "wp"
  rw [truth_o (us := xs.map .d) (by simp), wpo_some]
  refine ⟨fun hne => ?_, fun he => ?_⟩
  · have hne : xs ≠ [] := fun z => by subst z; simp at hne
    obtain ⟨ys, y, rfl⟩ := cons_last xs hne
    rw [szs_append] at hn
    simp only [szs] at hn
    have hy := sz_pos y
    have hl := szs_len ys
    rw [List.all_append, List.all_cons, List.all_nil, Bool.and_true] at hr
    rw [List.map_append, List.map_cons, List.map_nil]
    refine ⟨isLst_of (us := ys.map .d ++ [.d y]) (by simp), ?_⟩
    rw [gPop_last (us := ys.map .d) (u := .d y) (by simp)]
    walk_at "wp"
    simp only [set_last, F_headed_eq, post_ok, gEqA_s, wpo_some, boolW_b, List.append_nil]
    by_cases c1 : hd y = "does"
    · obtain ⟨r, rfl⟩ := hd_some c1 (by decide)
      simp only [c1]
      walk_at "wt"
      by_cases hlen : ((r.length + 1 : Nat) : Int) = 4
      · obtain ⟨i, a, b, rfl⟩ : ∃ i a b, r = [i, a, b] := by
          match r, hlen with
          | [i, a, b], _ => exact ⟨i, a, b, rfl⟩
          | [], h => simp at h
          | [_], h => simp at h
          | [_, _], h => simp at h
          | _ :: _ :: _ :: _ :: _, h => simp at h; omega
        simp only [hlen]
        walk_at "wt"
        simp only [F_is_below_eq]
        walk_at "wt"
        have e : isTr p (.tuple [.str "does", i, a, b]) = (isBelow p i && (isTr p a && isTr p b)) := by simp [isTr]
        simp only [sz, szs] at hn
        refine ⟨fun hi => ⟨isLst_of (us := ys.map .d) (by simp), ?_⟩, fun hi => ?_⟩
        · rw [gExt_of (us := ys.map .d) (xs := [a, b]) (by simp) rfl (by have := sz_pos a; have := sz_pos b; have := sz_pos i; simp; omega), wpo_some]
          refine ⟨szs (ys ++ [a, b]), ?_, ys ++ [a, b], some (W.d (.tuple [.str "does", i, a, b])), some (W.d (.str "does")), ?_, rfl, ?_, ?_⟩
          · rw [szs_append]; simp only [szs]; omega
          · rw [set_last, List.map_append] <;> rfl
          · rw [szs_append]; simp only [szs]; omega
          · rw [hr, e, hi]; simp
        · rw [hr, e, hi]; simp
      · have hl3 : r.length ≠ 3 := fun z => hlen (by rw [z]; rfl)
        simp only [hlen]
        walk_at "wt"
        rw [hr, isTr_len3 hl3]
        simp
    · walk_at "wt"
      simp only [c1]
      walk_at "wt"
      by_cases c2 : hd y = "shows"
      · obtain ⟨r, rfl⟩ := hd_some c2 (by decide)
        simp only [c2]
        walk_at "wt"
        by_cases hlen : ((r.length + 1 : Nat) : Int) = 3
        · obtain ⟨i, a, rfl⟩ : ∃ i a, r = [i, a] := by
            match r, hlen with
            | [i, a], _ => exact ⟨i, a, rfl⟩
            | [], h => simp at h
            | [_], h => simp at h
            | _ :: _ :: _ :: _, h => simp at h; omega
          simp only [hlen]
          walk_at "wt"
          simp only [F_is_figure_eq]
          walk_at "wt"
          have e : isTr p (.tuple [.str "shows", i, a]) = (isBelow 8 i && isTr p a) := by simp [isTr]
          simp only [sz, szs] at hn
          refine ⟨fun hi => ⟨isLst_of (us := ys.map .d) (by simp), ?_⟩, fun hi => ?_⟩
          · rw [gApp_of (us := ys.map .d) (x := a) (by simp) (by have := sz_pos a; have := sz_pos i; simp; omega), wpo_some]
            refine ⟨szs (ys ++ [a]), ?_, ys ++ [a], some (W.d (.tuple [.str "shows", i, a])), some (W.d (.str "shows")), ?_, rfl, ?_, ?_⟩
            · rw [szs_append]; simp only [szs]; omega
            · rw [set_last, List.map_append] <;> rfl
            · rw [szs_append]; simp only [szs]; omega
            · rw [hr, e, hi]; simp
          · rw [hr, e, hi]; simp
        · have hl3 : r.length ≠ 2 := fun z => hlen (by rw [z]; rfl)
          simp only [hlen]
          walk_at "wt"
          rw [hr, isTr_len2 hl3]
          simp
      · simp only [c2]
        walk_at "wt"
        by_cases c3 : hd y = "fails"
        · obtain ⟨r, rfl⟩ := hd_some c3 (by decide)
          simp only [c3]
          walk_at "wt"
          by_cases hlen : ((r.length + 1 : Nat) : Int) = 2
          · obtain ⟨i, rfl⟩ : ∃ i, r = [i] := by
              match r, hlen with
              | [i], _ => exact ⟨i, rfl⟩
              | [], h => simp at h
              | _ :: _ :: _, h => simp at h; omega
            simp only [hlen]
            walk_at "wt"
            have e : isTr p (.tuple [.str "fails", i]) = isNm i := by simp [isTr]
            simp only [sz, szs] at hn
            rw [F_is_name_eq fun z q => by subst q; exact sz_str (by omega)]
            walk_at "wt"
            refine ⟨fun hi => ?_, fun hi => ?_⟩
            · have hi : isNm i = false := by simpa using hi
              rw [hr, e, hi]; simp
            · have hi : isNm i = true := by simpa using hi
              refine ⟨szs ys, by have := sz_pos i; omega, ys, _, _, rfl, rfl, by omega, ?_⟩
              rw [hr, e, hi]; simp
          · have hl3 : r.length ≠ 1 := fun z => hlen (by rw [z]; rfl)
            simp only [hlen]
            walk_at "wt"
            rw [hr, isTr_len1 hl3]
            simp
        · simp only [c3]
          walk_at "wt"
          refine ⟨fun hi => ?_, fun hi => ?_⟩
          · rw [hr, isTr_other c1 c2 c3 (by simpa using hi)]; simp
          · have hi : hd y = "yes" ∨ hd y = "no" := by
              by_cases q : hd y = "yes"
              · exact .inl q
              · have := by simpa using hi
                exact .inr (this q)
            obtain ⟨r, hh, rfl, hhe⟩ : ∃ r hh, y = .tuple (.str hh :: r) ∧ (hh = "yes" ∨ hh = "no") := by
              rcases hi with hi | hi
              · obtain ⟨r, rfl⟩ := hd_some hi (by decide); exact ⟨r, _, rfl, .inl rfl⟩
              · obtain ⟨r, rfl⟩ := hd_some hi (by decide); exact ⟨r, _, rfl, .inr rfl⟩
            walk_at "wt"
            rw [hr, isTr_yn hhe]
            simp only [sz, szs] at hn
            cases r with
            | nil =>
              refine ⟨fun z => by simp at z, fun _ => ⟨szs ys, by omega, ys, _, _, rfl, rfl, by omega, by simp⟩⟩
            | cons a r =>
              refine ⟨fun z => by simp, fun z => ?_⟩
              simp at z
              omega
  · have he : xs = [] := by
      cases xs with
      | nil => rfl
      | cons a b => simp at he
    subst he
    simp [hr, fin_d, allNew_nil]
/-! ### draws -/
structure DS where
  wide : List Int
  cells : List Int
  r : Int
  t : Int
def DS.dct (a : Nat) (d : DS) : Ob := .dct [(.str "wide", .obj a), (.str "cells", .d (.list (d.cells.map .int))), (.str "rest", .d (.int d.r)), (.str "turn", .d (.int d.t))]
def DS.wl (d : DS) : Ob := .lst (d.wide.map fun i => .d (.int i))
def Dr (os : List Ob) (n a : Nat) (d : DS) : List Ob := (os.set a d.wl).set n (d.dct a)
/-- there is room for b more draws -/
def DS.ok (b : Nat) (d : DS) : Prop := 0 ≤ d.t ∧ d.t + b ≤ 2 ^ 40
class DOk (os : List Ob) (n a : Nat) : Prop where
  ln : n < os.length
  la : a < os.length
  na : n ≠ a
theorem DS.ok.le {b c : Nat} {d : DS} (h : d.ok b) (k : c ≤ b) : d.ok c := ⟨h.1, by have := h.2; omega⟩
section
variable {os : List Ob} {n a : Nat} {d : DS}
theorem Dr_n [k : DOk os n a] : (Dr os n a d)[n]? = some (d.dct a) := by
  unfold Dr
  rw [List.getElem?_set_self (by rw [List.length_set]; exact k.ln)]
theorem Dr_a [k : DOk os n a] : (Dr os n a d)[a]? = some d.wl := by
  unfold Dr
  rw [List.getElem?_set_ne k.na, List.getElem?_set_self k.la]
theorem Dr_setn {e : DS} (h : e.wide = d.wide) : (Dr os n a d).set n (e.dct a) = Dr os n a e := by
  unfold Dr DS.wl
  rw [List.set_set, h]
theorem Dr_seta {e : DS} [k : DOk os n a] (h1 : e.cells = d.cells) (h2 : e.r = d.r) (h3 : e.t = d.t) : (Dr os n a d).set a e.wl = Dr os n a e := by
  unfold Dr DS.dct
  rw [List.set_comm _ _ k.na, List.set_set, h1, h2, h3]
theorem Dr_len : (Dr os n a d).length = os.length := by
  unfold Dr
  rw [List.length_set, List.length_set]
theorem key_lit {z y : Str} {w : W} {r : List (PyData × W)} : valO keyK ((.str z, w) :: r) (.inr y) = if z = y then some w else valO keyK r (.inr y) := by
  by_cases h : z = y
  · subst h
    rw [valO_hit (by rfl), if_pos rfl]
  · rw [valO_miss (by intro q; simp [keyK] at q; exact h q), if_neg h]
theorem ne_w_c : (("wide" : Str) = "cells") = False := eq_false (by decide)
theorem ne_w_r : (("wide" : Str) = "rest") = False := eq_false (by decide)
theorem ne_w_t : (("wide" : Str) = "turn") = False := eq_false (by decide)
theorem ne_c_w : (("cells" : Str) = "wide") = False := eq_false (by decide)
theorem ne_c_r : (("cells" : Str) = "rest") = False := eq_false (by decide)
theorem ne_c_t : (("cells" : Str) = "turn") = False := eq_false (by decide)
theorem ne_r_w : (("rest" : Str) = "wide") = False := eq_false (by decide)
theorem ne_r_c : (("rest" : Str) = "cells") = False := eq_false (by decide)
theorem ne_r_t : (("rest" : Str) = "turn") = False := eq_false (by decide)
theorem ne_t_w : (("turn" : Str) = "wide") = False := eq_false (by decide)
theorem ne_t_c : (("turn" : Str) = "cells") = False := eq_false (by decide)
theorem ne_t_r : (("turn" : Str) = "rest") = False := eq_false (by decide)
theorem get_o {os : List Ob} {n : Nat} {x : PyData} : gIxA os (.obj n) (.d x) = match getO os[n]? x with | some r => some r | none => gIx os (.obj n) (.d x) := rfl
theorem Dr_wide [k : DOk os n a] : gIxA (Dr os n a d) (.obj n) (.d (.str "wide")) = some (.obj a) := by
  rw [get_o, Dr_n]
  simp [getO, DS.dct, keyK, key_lit]
theorem Dr_cells [k : DOk os n a] : gIxA (Dr os n a d) (.obj n) (.d (.str "cells")) = some (.d (.list (d.cells.map .int))) := by
  rw [get_o, Dr_n]
  simp [getO, DS.dct, keyK, key_lit, ne_w_c]
theorem Dr_rest [k : DOk os n a] : gIxA (Dr os n a d) (.obj n) (.d (.str "rest")) = some (.d (.int d.r)) := by
  rw [get_o, Dr_n]
  simp [getO, DS.dct, keyK, key_lit, ne_w_r, ne_c_r]
theorem Dr_turn [k : DOk os n a] : gIxA (Dr os n a d) (.obj n) (.d (.str "turn")) = some (.d (.int d.t)) := by
  rw [get_o, Dr_n]
  simp [getO, DS.dct, keyK, key_lit, ne_w_t, ne_c_t, ne_r_t]
theorem st_o {os : List Ob} {n : Nat} {x : PyData} {w : W} {o : Ob} (h : setO os[n]? x w = some o) : stAny os (.obj n) (.d x) w = some (os.set n o, esOf n w) := by
  unfold stAny stDct
  simp [h]
theorem Dr_setT [k : DOk os n a] {i : Int} : stAny (Dr os n a d) (.obj n) (.d (.str "turn")) (.d (.int i)) = some (Dr os n a { d with t := i }, []) := by
  rw [st_o (o := DS.dct a { d with t := i })]
  · exact congrArg (fun z => some (z, ([] : List Nat))) (Dr_setn (e := { d with t := i }) rfl)
  rw [Dr_n]
  simp [setO, DS.dct, keyK, putO, key_lit, ne_w_t, ne_c_t, ne_r_t, big]
theorem Dr_setR [k : DOk os n a] {i : Int} : stAny (Dr os n a d) (.obj n) (.d (.str "rest")) (.d (.int i)) = some (Dr os n a { d with r := i }, []) := by
  rw [st_o (o := DS.dct a { d with r := i })]
  · exact congrArg (fun z => some (z, ([] : List Nat))) (Dr_setn (e := { d with r := i }) rfl)
  rw [Dr_n]
  simp [setO, DS.dct, keyK, putO, key_lit, ne_w_r, ne_c_r, ne_t_r, big]
theorem Dr_truthW : gNe (Dr os n a d) (.obj a) (.d (.list [])) = (dataW (Dr os n a d) (.obj a)).bind fun x => if eqOk x (.list []) = true then some (.d (.bool (!PyData.eqv x (.list [])))) else none := by
  unfold gNe
  cases dataW (Dr os n a d) (.obj a) <;> rfl
theorem canLay_ints : ∀ l : List Int, PyData.canLayAll0 (l.map .int) = true
  | [] => by rw [List.map_nil, PyData.canLayAll0]
  | i :: l => by rw [List.map_cons, PyData.canLayAll0, canLay_ints l, PyData.canLay0] <;> rfl
theorem depth_ints : ∀ l : List Int, PyData.depthAll (l.map .int) = 0
  | [] => by rw [List.map_nil, PyData.depthAll]
  | i :: l => by rw [List.map_cons, PyData.depthAll, depth_ints l, PyData.depth] <;> rfl
theorem datas_wide (l : List Int) : datas (l.map fun i => W.d (.int i)) = some (l.map .int) := by
  have := datas_map (xs := l.map PyData.int)
  rw [List.map_map] at this
  exact this
theorem Dr_wideNe [k : DOk os n a] : gNe (Dr os n a d) (.obj a) (.d (.list [])) = some (.d (.bool (!d.wide.isEmpty))) := by
  rw [Dr_truthW]
  have : dataW (Dr os n a d) (.obj a) = some (.list (d.wide.map .int)) := by
    unfold dataW
    dsimp only
    rw [Dr_a]
    unfold DS.wl itemsO
    dsimp only
    rw [Option.bind_some, datas_wide, Option.map_some]
  rw [this, Option.bind_some]
  have e : eqOk (.list (d.wide.map .int)) (.list []) = true := by
    unfold eqOk SeqAt.shaped
    have h1 : PyData.canLay0 (.list (d.wide.map .int)) = true := by rw [PyData.canLay0, canLay_ints]
    have h2 : PyData.canLay0 (.list []) = true := by rw [PyData.canLay0, PyData.canLayAll0]
    have h3 : PyData.depth (.list (d.wide.map .int)) ≤ 64 := by
      rw [PyData.depth, depth_ints]; omega
    have h4 : PyData.depth (.list []) ≤ 64 := by rw [PyData.depth, PyData.depthAll]; omega
    simp [h1, h2, h3, h4]
  rw [if_pos e]
  congr 4
  cases d.wide with
  | nil => rw [List.map_nil, PyData.eqv, PyData.eqvAll] <;> rfl
  | cons i l => rw [List.map_cons, PyData.eqv, PyData.eqvAll] <;> rfl
theorem gInt_i {os : List Ob} {i : Int} : gInt os [.d (.int i)] = some (.d (.int i)) := rfl
theorem gAbs_i {os : List Ob} {i : Int} : gAbs os [.d (.int i)] = some (.d (.int (if i < 0 then -i else i))) := rfl
theorem gMod_i {os : List Ob} {i j : Int} (h : 0 < j) : gMod os (.d (.int i)) (.d (.int j)) = some (.d (.int (i % j))) := by
  show (if 0 < j then some (PyData.int (i % j)) else none).map W.d = _
  rw [if_pos h] <;> rfl
theorem gDiv_i {os : List Ob} {i j : Int} (h : 0 < j) (h2 : j < 1073741824) : gDiv os (.d (.int i)) (.d (.int j)) = some (.d (.int (i / j))) := by
  show (if 0 < j ∧ j < 1073741824 then some (PyData.int (i / j)) else none).map W.d = _
  rw [if_pos ⟨h, h2⟩] <;> rfl
theorem gMul_l {os : List Ob} {i j : Int} (h : -(2 ^ 64) < i ∧ i < 2 ^ 64) : gMul os (.d (.int i)) (.d (.int j)) = some (.d (.int (i * j))) := by
  show (if (-(2 ^ 64) < i ∧ i < 2 ^ 64) ∨ (-(2 ^ 64) < j ∧ j < 2 ^ 64) then some (PyData.int (i * j)) else none).map W.d = _
  rw [if_pos (.inl h)] <;> rfl
theorem gMul_r {os : List Ob} {i j : Int} (h : -(2 ^ 64) < j ∧ j < 2 ^ 64) : gMul os (.d (.int i)) (.d (.int j)) = some (.d (.int (i * j))) := by
  show (if (-(2 ^ 64) < i ∧ i < 2 ^ 64) ∨ (-(2 ^ 64) < j ∧ j < 2 ^ 64) then some (PyData.int (i * j)) else none).map W.d = _
  rw [if_pos (.inr h)] <;> rfl
theorem gPow_i {os : List Ob} {i j : Int} (h0 : 0 ≤ j) (h1 : j ≤ 1000000) (h2 : i.natAbs < 2 ^ 64) : gPow os (.d (.int i)) (.d (.int j)) = some (.d (.int (i ^ j.toNat))) := by
  show (if 0 ≤ j ∧ j ≤ 1000000 ∧ i.natAbs < 2 ^ 64 then some (PyData.int (i ^ j.toNat)) else none).map W.d = _
  rw [if_pos ⟨h0, h1, h2⟩] <;> rfl
theorem seqW_l {xs : List PyData} : seqW (.d (.list xs)) = some (xs.map .d) := rfl
theorem seqW_t {xs : List PyData} : seqW (.d (.tuple xs)) = some (xs.map .d) := rfl
end
/-! ### what a call tells -/
def endsP (n : Nat) (P : Rs → Prop) (f : Fl) (s : AS) : Prop := match f with
  | .nx => P (fin n (.d .none) s)
  | .rt w => P (fin n w s)
  | _ => False
theorem endsP_nx {n : Nat} {P : Rs → Prop} {s : AS} : endsP n P .nx s = P (fin n (.d .none) s) := rfl
theorem endsP_rt {n : Nat} {P : Rs → Prop} {w : W} {s : AS} : endsP n P (.rt w) s = P (fin n w s) := rfl
theorem run_ex {N : Nat} {mb : FM Fl} {ws : List W} {os : List Ob} {P : Rs → Prop} (h : wp mb (start0 N ws os) (endsP os.length P) fun e s => P (finX os.length e s)) : ∃ r, runF N mb ws os = some r ∧ P r := by
  unfold runF
  unfold wp at h
  cases e : mb (start0 N ws os) with
  | none => rw [e] at h; exact h.elim
  | some o =>
    rw [e] at h
    cases o with
    | ex x s => exact ⟨_, rfl, h⟩
    | ok f s =>
      cases f with
      | nx => exact ⟨_, rfl, h⟩
      | rt w => exact ⟨_, rfl, h⟩
      | bk => exact h.elim
      | ct => exact h.elim
/-- a datum comes back -/
def Ret (Q : PyData → List Ob → Prop) : Rs → Prop
  | .ok (.d x) os es => es = [] ∧ Q x os
  | _ => False
def Tells (F : Fn) (ws : List W) (os : List Ob) (Q : PyData → List Ob → Prop) : Prop := ∃ r, F ws os = some r ∧ Ret Q r
theorem Tells.mono {F : Fn} {ws : List W} {os : List Ob} {Q Q' : PyData → List Ob → Prop} (h : Tells F ws os Q) (k : ∀ x os', Q x os' → Q' x os') : Tells F ws os Q' := by
  obtain ⟨r, e, p⟩ := h
  refine ⟨r, e, ?_⟩
  cases r with
  | ok w os' es => cases w with
    | d x => exact ⟨p.1, k _ _ p.2⟩
    | _ => exact p.elim
  | _ => exact p.elim
theorem Tells.of {F : Fn} {ws : List W} {os os' : List Ob} {x : PyData} {Q : PyData → List Ob → Prop} (e : F ws os = some (.ok (.d x) os' [])) (q : Q x os') : Tells F ws os Q := ⟨_, e, rfl, q⟩
theorem Tells.run {N : Nat} {mb : FM Fl} {ws : List W} {os : List Ob} {Q : PyData → List Ob → Prop} (h : wp mb (start0 N ws os) (endsP os.length (Ret Q)) fun _ _ => False) : Tells (runF N mb) ws os Q :=
  run_ex (wp_mono h (fun _ _ z => z) fun _ _ z => z.elim)
theorem ret_ok {x : PyData} {os : List Ob} {es : List Nat} {Q : PyData → List Ob → Prop} : Ret Q (.ok (.d x) os es) = (es = [] ∧ Q x os) := rfl
theorem ret_fin {n : Nat} {x : PyData} {sl : List (Option W)} {os : List Ob} {Q : PyData → List Ob → Prop} : Ret Q (fin n (.d x) ⟨sl, os, []⟩) = Q x (os.take n) := by
  rw [fin_d, allNew_nil, if_pos rfl]
  exact propext ⟨fun h => h.2, fun h => ⟨rfl, h⟩⟩
theorem post_t {F : Fn} {ws : List W} {os : List Ob} {s : AS} {R : PyData → List Ob → Prop} {Q : W → AS → Prop} {X : Ex → AS → Prop} (h : Tells F ws os R) (k : ∀ x os', R x os' → Q (.d x) ⟨s.sl, os', s.es⟩) : post (F ws os) s Q X := by
  obtain ⟨r, e, p⟩ := h
  rw [e]
  cases r with
  | ok w os' es => cases w with
    | d x =>
      obtain ⟨rfl, p⟩ := p
      rw [post_ok, List.append_nil]
      exact k x os' p
    | _ => exact p.elim
  | _ => exact p.elim
theorem take_len {os : List Ob} {n a : Nat} {d : DS} : (Dr os n a d).take (Dr os n a d).length = Dr os n a d := List.take_length
theorem take_len2 {os : List Ob} {n a : Nat} {d e : DS} : (Dr os n a d).take (Dr os n a e).length = Dr os n a d := by
  rw [Dr_len, ← Dr_len (os := os) (n := n) (a := a) (d := d), List.take_length]
section
variable {os : List Ob} {n a : Nat} {d : DS}
theorem natAbs_lt {i : Int} (h0 : 0 ≤ i) (h : i < 2 ^ 64) : i.natAbs < 2 ^ 64 := by omega
theorem F_mixed_eq [k : DOk os n a] {b : Nat} (hd : d.ok (b + 1)) : Tells F__law_mixed [.obj n] (Dr os n a d) fun x os' => (∃ v : Int, x = .int v) ∧ os' = Dr os n a { d with t := d.t + 1 } := by
  obtain ⟨h0, h1⟩ := hd
  refine Tells.run ?_
  unfold b__law_mixed
  walk_at "wt"
  simp only [Dr_turn]
  walk_at "wt"
  simp only [Dr_setT]
  walk_at "wt"
  rw [seqW_l]
  walk_at "wt"
  refine wp_forI (fun ws s => (∀ w ∈ ws, ∃ p : Int, w = .d (.int p) ∧ 0 < p ∧ p ≤ 2147483647) ∧ ∃ (f : Int) (h3 h4 h5 : Option W), s = ⟨[some (.obj n), some (.d (.int (d.t + 1))), some (.d (.int f)), h3, h4, h5], Dr os n a { d with t := d.t + 1 }, []⟩) ?_ ?_ ?_
  · refine ⟨by simp, 0, none, none, none, rfl⟩
  · rintro w ws s ⟨hw, f, h3, h4, h5, rfl⟩
    obtain ⟨p, rfl, p0, p1⟩ := hw w List.mem_cons_self
    walk_at "wt"
    rw [gMul_l (by decide), wpo_some, gDiv_i (by decide) (by decide)]
    walk_at "wt"
    simp only [Dr_cells]
    walk_at "wt"
    rw [seqW_l]
    walk_at "wt"
    refine wp_forI (fun ws s => (∃ cs : List Int, ws = cs.map fun c => .d (.int c)) ∧ ∃ (bl : Int) (h5 : Option W), 0 ≤ bl ∧ bl < 2 ^ 64 ∧ s = ⟨[some (.obj n), some (.d (.int (d.t + 1))), some (.d (.int f)), some (.d (.int p)), some (.d (.int bl)), h5], Dr os n a { d with t := d.t + 1 }, []⟩) ?_ ?_ ?_
    · refine ⟨⟨d.cells, by rw [List.map_map] <;> rfl⟩, _, _, ?_, ?_, rfl⟩
      · have : 0 ≤ p / 37 := Int.ediv_nonneg (by omega) (by omega)
        omega
      · have : p / 37 ≤ p := Int.ediv_le_self _ (by omega)
        omega
    · rintro w ws s ⟨⟨cs, hcs⟩, bl, h5, b0, b1, rfl⟩
      cases cs with
      | nil => cases hcs
      | cons c cs =>
        obtain ⟨rfl, rfl⟩ := List.cons.inj hcs
        walk_at "wt"
        rw [gMul_r (by decide)]
        walk_at "wt"
        simp only [gInt_i]
        walk_at "wt"
        rw [gMod_i p0]
        walk_at "wt"
        refine ⟨⟨cs, rfl⟩, _, _, Int.emod_nonneg _ (by omega), ?_, rfl⟩
        have := Int.emod_lt_of_pos (bl * 69621 + c + (d.t + 1)) p0
        omega
    · rintro s ⟨_, bl, h5, b0, b1, rfl⟩
      walk_at "wt"
      rw [gMul_r (by decide)]
      walk_at "wt"
      rw [gPow_i (by decide) (by decide) (natAbs_lt b0 b1)]
      walk_at "wt"
      simp only [gInt_i]
      walk_at "wt"
      rw [gMod_i p0]
      walk_at "wt"
      exact ⟨fun w hw' => hw w (List.mem_cons_of_mem _ hw'), _, _, _, _, rfl⟩
  · rintro s ⟨_, f, h3, h4, h5, rfl⟩
    walk_at "wt"
    simp only [endsP_rt, ret_fin]
    exact ⟨⟨f, rfl⟩, take_len2⟩
end
local macro_rules | `(tactic| walk_at "wd") => `(tactic| simp only [wp_var, wp_C, wp_nil, wp_cons, wp_op1, wp_op2, wp_opn, wp_tup, wp_lst, wp_box, wp_truth, wp_bool, wp_andT, wp_orT, wp_notT, wp_andV, wp_orV, wp_notV, wp_ifE, wp_seq, nxt_nx, nxt_rt, nxt_bk, nxt_ct, wp_next, wp_brk, wp_cnt, wp_expr, wp_ret, wp_retN, wp_if, wp_asg, wp_gset, wp_par, wp_sub, wp_setFld, wp_call, wp_meth, wp_make, wp_chain, wp_noP, wp_part, wp_sl, wp_rev, wp_ef, wp_new, wp_it, wp_rng, wp_frz, wp_for, wp_tupF, wp_nilF, wp_consF, wp_yes, wpo_some, wpo_none, post_ok, post_ex, start0_eq, ends_nx, ends_rt, List.getElem?_cons_zero, List.getElem?_cons_succ, List.set_cons_zero, List.set_cons_succ, List.map_cons, List.map_nil, List.length_cons, List.length_nil, List.cons_append, List.nil_append, List.append_nil, Nat.sub_self, Nat.zero_add, Nat.reduceAdd, Nat.reduceSub, List.replicate_succ, List.replicate_zero, true_and, and_true, forall_const, reduceCtorEq, false_implies, implies_true, Bool.true_eq_false, Bool.false_eq_true, Bool.not_true, Bool.not_false, tupO_0, tupO_1, tupO_2, tupO_3, tupO_4, tupO_5, tupO_6, tupO_7, tupO_8, tupO_9, tupO_10, tupO_11, tupO_12, tupO_13, tupO_14, tupO_15, tupO_16, lstO_0, lstO_1, lstO_2, lstO_3, lstO_4, lstO_5, lstO_6, lstO_7, lstO_8, lstO_9, lstO_10, lstO_11, lstO_12, lstO_13, lstO_14, lstO_15, lstO_16, gInA_s2T, gInA_s2L, gInA_i2T, gIs_d, truth_b, truth_t, boolW_b, intW_i, gIxA_t, gIxA_l, gAdd_i, gLe_i, gLt_i, gGt_i, gGe_i, gMinus_i, gEqA_s, gEqA_i, gNe_i, gNe_s, gLen_t, gLen_l, atI_0, atI_1, atI_2, atI_3, cut2, Option.map_some, Option.bind_some, decide_true, decide_false, Bool.not_true, Bool.not_false, Bool.and_true, Bool.true_and, Bool.and_false, Bool.false_and, Bool.or_true, Bool.or_false, Bool.true_or, Bool.false_or, fin_d, allNew_nil, if_true, List.take_length, set_last, rest_last, Bool.bne_true, Bool.true_bne, Bool.false_bne, Bool.bne_false, turn_nx, turn_rt, turn_ct, turn_bk, eq_self, Bool.and_self, Bool.or_self, ne_yes_no, ne_yes_fails, ne_yes_shows, ne_yes_does, ne_yes_wants, ne_no_yes, ne_no_fails, ne_no_shows, ne_no_does, ne_no_wants, ne_fails_yes, ne_fails_no, ne_fails_shows, ne_fails_does, ne_fails_wants, ne_shows_yes, ne_shows_no, ne_shows_fails, ne_shows_does, ne_shows_wants, ne_does_yes, ne_does_no, ne_does_fails, ne_does_shows, ne_does_wants, ne_wants_yes, ne_wants_no, ne_wants_fails, ne_wants_shows, ne_wants_does, Dr_wide, Dr_cells, Dr_rest, Dr_turn, Dr_setT, Dr_setR, Dr_wideNe, gInt_i, gAbs_i, gMod_i, gDiv_i, gMul_l, gMul_r, gPow_i, endsP_rt, endsP_nx, ret_ok, seqW_l, seqW_t, take_len, take_len2, Int.reduceLT, Int.reduceLE, Int.reducePow, Int.reduceNeg, Int.reduceToNat, Int.reduceSub, Int.reduceAdd])
section
variable {os : List Ob} {n a : Nat} {d : DS}
/-- a draw was made: only the source's own objects changed -/
def Dn (os : List Ob) (n a : Nat) (b : Nat) (os' : List Ob) : Prop := ∃ d : DS, d.ok b ∧ os' = Dr os n a d
theorem gPopAt0 {os : List Ob} {n : Nat} {u : W} {us : List W} (h : os[n]? = some (.lst (u :: us))) : gPopAt os (.obj n) [.d (.int 0)] = some (u, os.set n (.lst us), []) := by
  unfold gPopAt listO
  simp [h, itemsO, seqIndex?]
theorem F_take_eq [k : DOk os n a] {b : Nat} (hd : d.ok (b + 1)) {m : Int} (m0 : 0 < m) (m1 : m < 1073741824) : Tells F__law_take [.obj n, .d (.int m)] (Dr os n a d) fun x os' => (∃ i : Int, x = .int i ∧ 0 ≤ i ∧ i < m) ∧ Dn os n a b os' := by
  have tail : ∀ (e : DS), e.ok b → (∃ i, PyData.int (e.r % m) = PyData.int i ∧ 0 ≤ i ∧ i < m) ∧ Dn os n a b (Dr os n a { e with r := e.r / m }) := fun e he =>
    ⟨⟨_, rfl, Int.emod_nonneg _ (by omega), Int.emod_lt_of_pos _ m0⟩, { e with r := e.r / m }, he, rfl⟩
  refine Tells.run ?_
  unfold b__law_take
  walk_at "wd"
  refine ⟨fun h0 => ⟨fun hw => ⟨isLst_of Dr_a, ?_⟩, fun hw => ?_⟩, fun h0 => ?_⟩
  · obtain ⟨wide, cells, r, t⟩ := d
    cases wide with
    | nil => simp at hw
    | cons i wide =>
      rw [gPopAt0 (u := .d (.int i)) (us := wide.map fun i => .d (.int i)) Dr_a, wpo_some]
      have e : (Dr os n a ⟨i :: wide, cells, r, t⟩).set a (.lst (wide.map fun i => .d (.int i))) = Dr os n a ⟨wide, cells, r, t⟩ := Dr_seta (e := ⟨wide, cells, r, t⟩) rfl rfl rfl
      rw [e]
      walk_at "wd"
      rw [gMod_i m0, wpo_some, gDiv_i m0 m1]
      walk_at "wd"
      exact tail ⟨wide, cells, i, t⟩ ⟨hd.1, by have : t + ((b + 1 : Nat) : Int) ≤ 2 ^ 40 := hd.2; show t + (b : Int) ≤ 2 ^ 40; push_cast at this; omega⟩
  · refine post_t (F_mixed_eq hd) ?_
    rintro x os' ⟨⟨v, rfl⟩, rfl⟩
    walk_at "wd"
    rw [gMod_i m0, wpo_some, gDiv_i m0 m1]
    walk_at "wd"
    exact tail { d with t := d.t + 1, r := v } ⟨by have := hd.1; show 0 ≤ d.t + 1; omega, by have := hd.2; show d.t + 1 + (b : Int) ≤ 2 ^ 40; push_cast at this; omega⟩
  · rw [gMod_i m0, wpo_some, gDiv_i m0 m1]
    walk_at "wd"
    exact tail d (hd.le (by omega))
/-- .. and one of some things is told -/
theorem F_pick_eq [k : DOk os n a] {b : Nat} (hd : d.ok (b + 1)) {xs : List PyData} (h0 : xs ≠ []) (h1 : xs.length < 1073741824) : Tells F__law_pick [.obj n, .d (.list xs)] (Dr os n a d) fun x os' => x ∈ xs ∧ Dn os n a b os' := by
  refine Tells.run ?_
  unfold b__law_pick
  walk_at "wd"
  have hp : 0 < xs.length := List.length_pos_iff.mpr h0
  refine post_t (F_take_eq hd (m := xs.length) (by omega) (by omega)) ?_
  rintro x os' ⟨⟨i, rfl, i0, i1⟩, d', hd', rfl⟩
  walk_at "wd"
  have e : atI xs i = some (xs[i.toNat]'(by omega)) := by
    unfold atI ixN
    rw [if_pos i0, if_pos i1, Option.bind_some, List.getElem?_eq_getElem]
  rw [e]
  walk_at "wd"
  exact ⟨List.getElem_mem _, d', hd', rfl⟩
end
/-! ### trees -/
inductive Tr where
  | yes | no | fails (w : Str) | shows (i : Int) (t : Tr) | does (i : Int) (a b : Tr)
  deriving DecidableEq
def Tr.dt : Tr → PyData
  | .yes => .tuple [.str "yes"]
  | .no => .tuple [.str "no"]
  | .fails w => .tuple [.str "fails", .str w]
  | .shows i t => .tuple [.str "shows", .int i, t.dt]
  | .does i a b => .tuple [.str "does", .int i, a.dt, b.dt]
theorem beqS (a b : Str) : (a == b) = decide (a = b) := by
  rw [Bool.eq_iff_iff, beq_iff_eq, decide_eq_true_iff]
theorem beqI (a b : Int) : (a == b) = decide (a = b) := by
  rw [Bool.eq_iff_iff, beq_iff_eq, decide_eq_true_iff]
theorem Tr.eqv : ∀ t u : Tr, PyData.eqv t.dt u.dt = decide (t = u)
  | .yes, u => by cases u <;> simp [Tr.dt, PyData.eqv, PyData.eqvAll] <;> decide +kernel
  | .no, u => by cases u <;> simp [Tr.dt, PyData.eqv, PyData.eqvAll] <;> decide +kernel
  | .fails w, u => by
    cases u with
    | fails x => simp [Tr.dt, PyData.eqv, PyData.eqvAll, beqS]
    | _ => simp [Tr.dt, PyData.eqv, PyData.eqvAll] <;> decide +kernel
  | .shows i t, u => by
    cases u with
    | shows j u => simp [Tr.dt, PyData.eqv, PyData.eqvAll, Tr.eqv t u, beqI]
    | _ => simp [Tr.dt, PyData.eqv, PyData.eqvAll] <;> decide +kernel
  | .does i a b, u => by
    cases u with
    | does j c d => simp [Tr.dt, PyData.eqv, PyData.eqvAll, Tr.eqv a c, Tr.eqv b d, beqI]
    | _ => simp [Tr.dt, PyData.eqv, PyData.eqvAll] <;> decide +kernel
def Tr.deep : Tr → Nat
  | .yes => 0
  | .no => 0
  | .fails _ => 0
  | .shows _ t => t.deep + 1
  | .does _ a b => max a.deep b.deep + 1
def Tr.wok : Tr → Prop
  | .yes => True
  | .no => True
  | .fails w => PyData.strOk w = true
  | .shows _ t => t.wok
  | .does _ a b => a.wok ∧ b.wok
theorem Tr.depth_dt : ∀ t : Tr, t.dt.depth = t.deep + 1
  | .yes => by simp [Tr.dt, PyData.depth, PyData.depthAll, Tr.deep]
  | .no => by simp [Tr.dt, PyData.depth, PyData.depthAll, Tr.deep]
  | .fails w => by simp [Tr.dt, PyData.depth, PyData.depthAll, Tr.deep]
  | .shows i t => by
    have := Tr.depth_dt t
    simp [Tr.dt, PyData.depth, PyData.depthAll, Tr.deep]
    omega
  | .does i a b => by
    have := Tr.depth_dt a
    have := Tr.depth_dt b
    simp [Tr.dt, PyData.depth, PyData.depthAll, Tr.deep]
    omega
theorem letterB_mem (c : Nat) : letterB c = decide (c ∈ ("abcdefghijklmnopqrstuvwxyz" : Str).cps.toList) := by
  unfold letterB inS
  exact PySem.StrLaws.found_one _ c
theorem strOk_nm {w : Str} (h : isNm (.str w) = true) : PyData.strOk w = true := by
  unfold isNm madeB at h
  have h := (Bool.and_eq_true_iff.mp (Bool.and_eq_true_iff.mp h).1).2
  unfold PyData.strOk
  rw [← Array.all_toList]
  refine List.all_eq_true.mpr fun c hc => ?_
  have := List.all_eq_true.mp h c hc
  rw [letterB_mem, decide_eq_true_iff] at this
  have all : ∀ c ∈ ("abcdefghijklmnopqrstuvwxyz" : Str).cps.toList, c < 1114112 := by decide +kernel
  exact decide_eq_true (all c this)
theorem len_nm {w : Str} (h : isNm (.str w) = true) : w.length ≤ 8 := by
  unfold isNm madeB at h
  simp at h
  omega
def Tr.ok (p : Int) : Tr → Bool
  | .yes => true
  | .no => true
  | .fails w => isNm (.str w)
  | .shows i t => isBelow 8 (.int i) && t.ok p
  | .does i a b => isBelow p (.int i) && (a.ok p && b.ok p)
theorem Tr.isTr {p : Int} : ∀ t : Tr, FL.isTr p t.dt = t.ok p
  | .yes => by simp [Tr.dt, FL.isTr, Tr.ok]
  | .no => by simp [Tr.dt, FL.isTr, Tr.ok]
  | .fails w => by simp [Tr.dt, FL.isTr, Tr.ok]
  | .shows i t => by simp [Tr.dt, FL.isTr, Tr.ok, Tr.isTr t]
  | .does i a b => by simp [Tr.dt, FL.isTr, Tr.ok, Tr.isTr a, Tr.isTr b]
theorem isNm_str {x : PyData} (h : isNm x = true) : ∃ w, x = .str w := by
  cases x with
  | str w => exact ⟨w, rfl⟩
  | _ => cases h
theorem isBelow_int {p : Int} {x : PyData} (h : isBelow p x = true) : ∃ i, x = .int i := by
  cases x with
  | int i => exact ⟨i, rfl⟩
  | _ => cases h
theorem isTr_some {p : Int} (n : Nat) : ∀ x : PyData, sizeOf x ≤ n → isTr p x = true → ∃ t : Tr, x = t.dt := by
  induction n with
  | zero => intro x hs; cases x <;> simp at hs
  | succ n ih =>
    intro x hs h
    unfold isTr at h
    split at h
    · simp at h
      rcases h with rfl | rfl
      · exact ⟨.yes, rfl⟩
      · exact ⟨.no, rfl⟩
    · simp at h
      obtain ⟨rfl, h⟩ := h
      obtain ⟨w, rfl⟩ := isNm_str h
      exact ⟨.fails w, rfl⟩
    · rename_i hh m a
      simp at h
      obtain ⟨rfl, h1, h2⟩ := h
      obtain ⟨i, rfl⟩ := isBelow_int h1
      obtain ⟨t, rfl⟩ := ih a (by simp at hs; omega) h2
      exact ⟨.shows i t, rfl⟩
    · rename_i hh m a b
      simp at h
      obtain ⟨rfl, h1, h2, h3⟩ := h
      obtain ⟨i, rfl⟩ := isBelow_int h1
      obtain ⟨t, rfl⟩ := ih a (by simp at hs; omega) h2
      obtain ⟨u, rfl⟩ := ih b (by simp at hs; omega) h3
      exact ⟨.does i t u, rfl⟩
    · cases h
theorem isTr_dt {p : Int} {x : PyData} (h : isTr p x = true) : ∃ t : Tr, x = t.dt ∧ t.ok p = true := by
  obtain ⟨t, rfl⟩ := isTr_some _ x (Nat.le_refl _) h
  exact ⟨t, rfl, by rw [← Tr.isTr]; exact h⟩
theorem Tr.wok_ok {n : Int} : ∀ t : Tr, t.ok n = true → t.wok
  | .yes, _ => trivial
  | .no, _ => trivial
  | .fails w, h => strOk_nm h
  | .shows i t, h => Tr.wok_ok t (Bool.and_eq_true_iff.mp h).2
  | .does i a b, h => ⟨Tr.wok_ok a (Bool.and_eq_true_iff.mp (Bool.and_eq_true_iff.mp h).2).1, Tr.wok_ok b (Bool.and_eq_true_iff.mp (Bool.and_eq_true_iff.mp h).2).2⟩
theorem Tr.canLay : ∀ t : Tr, t.wok → t.dt.canLay0 = true
  | .yes, _ => by simp [Tr.dt, PyData.canLay0, PyData.canLayAll0]; decide +kernel
  | .no, _ => by simp [Tr.dt, PyData.canLay0, PyData.canLayAll0]; decide +kernel
  | .fails w, h => by
    have h : PyData.strOk w = true := h
    simp [Tr.dt, PyData.canLay0, PyData.canLayAll0, h]; decide +kernel
  | .shows i t, h => by
    have := Tr.canLay t h
    simp [Tr.dt, PyData.canLay0, PyData.canLayAll0, this]; decide +kernel
  | .does i a b, h => by
    have := Tr.canLay a h.1
    have := Tr.canLay b h.2
    simp [Tr.dt, PyData.canLay0, PyData.canLayAll0, *]; decide +kernel
theorem Tr.shaped {t : Tr} (h : t.wok) (hd : t.deep ≤ 60) : SeqAt.shaped t.dt = true := by
  unfold SeqAt.shaped
  rw [t.canLay h, t.depth_dt]
  simp
  omega
theorem gEqA_tr {os : List Ob} {t u : Tr} (ht : t.wok) (hd : t.deep ≤ 60) (hu : u.wok) (hd2 : u.deep ≤ 60) : gEqA os (.d t.dt) (.d u.dt) = some (.d (.bool (decide (t = u)))) := by
  have e : gNilT os (.d t.dt) (.d u.dt) = none := by
    cases t <;> cases u <;> rfl
  unfold gEqA
  rw [e]
  unfold gEq dataW eqOk
  simp [Tr.shaped ht hd, Tr.shaped hu hd2, Tr.eqv]
/-- how much there is of a tree -/
theorem Tr.sz_le {p : Int} : ∀ t : Tr, t.ok p = true → sz t.dt + 8 ≤ 32 * 2 ^ t.deep
  | .yes, _ => by
    have e : ("yes" : Str).length = 3 := by decide +kernel
    simp [Tr.dt, sz, szs, Tr.deep, e]
  | .no, _ => by
    have e : ("no" : Str).length = 2 := by decide +kernel
    simp [Tr.dt, sz, szs, Tr.deep, e]
  | .fails w, h => by
    have := len_nm h
    have e : ("fails" : Str).length = 5 := by decide +kernel
    simp [Tr.dt, sz, szs, Tr.deep, e]; omega
  | .shows i t, h => by
    have h1 := Tr.sz_le t (Bool.and_eq_true_iff.mp h).2
    have e : ("shows" : Str).length = 5 := by decide +kernel
    have e2 : 2 ^ (t.deep + 1) = 2 * 2 ^ t.deep := by rw [Nat.pow_succ]; omega
    have e3 := Nat.one_le_two_pow (n := t.deep)
    simp [Tr.dt, sz, szs, Tr.deep, e]; omega
  | .does i a b, h => by
    have h := Bool.and_eq_true_iff.mp (Bool.and_eq_true_iff.mp h).2
    have h1 := Tr.sz_le a h.1
    have h2 := Tr.sz_le b h.2
    have e : ("does" : Str).length = 4 := by decide +kernel
    have e2 : 2 ^ (max a.deep b.deep + 1) = 2 * 2 ^ (max a.deep b.deep) := by rw [Nat.pow_succ]; omega
    have e3 : 2 ^ a.deep ≤ 2 ^ (max a.deep b.deep) := Nat.pow_le_pow_right (by omega) (Nat.le_max_left _ _)
    have e4 : 2 ^ b.deep ≤ 2 ^ (max a.deep b.deep) := Nat.pow_le_pow_right (by omega) (Nat.le_max_right _ _)
    simp [Tr.dt, sz, szs, Tr.deep, e]; omega
local macro_rules | `(tactic| walk_at "wd") => `(tactic| simp only [wp_var, wp_C, wp_nil, wp_cons, wp_op1, wp_op2, wp_opn, wp_tup, wp_lst, wp_box, wp_truth, wp_bool, wp_andT, wp_orT, wp_notT, wp_andV, wp_orV, wp_notV, wp_ifE, wp_seq, nxt_nx, nxt_rt, nxt_bk, nxt_ct, wp_next, wp_brk, wp_cnt, wp_expr, wp_ret, wp_retN, wp_if, wp_asg, wp_gset, wp_par, wp_sub, wp_setFld, wp_call, wp_meth, wp_make, wp_chain, wp_noP, wp_part, wp_sl, wp_rev, wp_ef, wp_new, wp_it, wp_rng, wp_frz, wp_for, wp_tupF, wp_nilF, wp_consF, wp_yes, wpo_some, wpo_none, post_ok, post_ex, start0_eq, ends_nx, ends_rt, List.getElem?_cons_zero, List.getElem?_cons_succ, List.set_cons_zero, List.set_cons_succ, List.map_cons, List.map_nil, List.length_cons, List.length_nil, List.cons_append, List.nil_append, List.append_nil, Nat.sub_self, Nat.zero_add, Nat.reduceAdd, Nat.reduceSub, List.replicate_succ, List.replicate_zero, true_and, and_true, forall_const, reduceCtorEq, false_implies, implies_true, Bool.true_eq_false, Bool.false_eq_true, Bool.not_true, Bool.not_false, tupO_0, tupO_1, tupO_2, tupO_3, tupO_4, tupO_5, tupO_6, tupO_7, tupO_8, tupO_9, tupO_10, tupO_11, tupO_12, tupO_13, tupO_14, tupO_15, tupO_16, lstO_0, lstO_1, lstO_2, lstO_3, lstO_4, lstO_5, lstO_6, lstO_7, lstO_8, lstO_9, lstO_10, lstO_11, lstO_12, lstO_13, lstO_14, lstO_15, lstO_16, gInA_s2T, gInA_s2L, gInA_i2T, gIs_d, truth_b, truth_t, boolW_b, intW_i, gIxA_t, gIxA_l, gAdd_i, gLe_i, gLt_i, gGt_i, gGe_i, gMinus_i, gEqA_s, gEqA_i, gNe_i, gNe_s, gLen_t, gLen_l, atI_0, atI_1, atI_2, atI_3, cut2, Option.map_some, Option.bind_some, decide_true, decide_false, Bool.not_true, Bool.not_false, Bool.and_true, Bool.true_and, Bool.and_false, Bool.false_and, Bool.or_true, Bool.or_false, Bool.true_or, Bool.false_or, fin_d, allNew_nil, if_true, List.take_length, set_last, rest_last, Bool.bne_true, Bool.true_bne, Bool.false_bne, Bool.bne_false, turn_nx, turn_rt, turn_ct, turn_bk, eq_self, Bool.and_self, Bool.or_self, ne_yes_no, ne_yes_fails, ne_yes_shows, ne_yes_does, ne_yes_wants, ne_no_yes, ne_no_fails, ne_no_shows, ne_no_does, ne_no_wants, ne_fails_yes, ne_fails_no, ne_fails_shows, ne_fails_does, ne_fails_wants, ne_shows_yes, ne_shows_no, ne_shows_fails, ne_shows_does, ne_shows_wants, ne_does_yes, ne_does_no, ne_does_fails, ne_does_shows, ne_does_wants, ne_wants_yes, ne_wants_no, ne_wants_fails, ne_wants_shows, ne_wants_does, isT_bool_NoneType, isT_bool_bool, isT_bool_int, isT_bool_str, isT_bool_tuple, isT_bool_list, isT_bool_dict, isT_int_NoneType, isT_int_bool, isT_int_int, isT_int_str, isT_int_tuple, isT_int_list, isT_int_dict, isT_str_NoneType, isT_str_bool, isT_str_int, isT_str_str, isT_str_tuple, isT_str_list, isT_str_dict, isT_tuple_NoneType, isT_tuple_bool, isT_tuple_int, isT_tuple_str, isT_tuple_tuple, isT_tuple_list, isT_tuple_dict, isT_list_NoneType, isT_list_bool, isT_list_int, isT_list_str, isT_list_tuple, isT_list_list, isT_list_dict, isT_dict_NoneType, isT_dict_bool, isT_dict_int, isT_dict_str, isT_dict_tuple, isT_dict_list, isT_dict_dict, tyD_none, tyD_bool, tyD_int, tyD_str, tyD_tuple, tyD_list, tyD_dict, Dr_wide, Dr_cells, Dr_rest, Dr_turn, Dr_setT, Dr_setR, Dr_wideNe, gInt_i, gAbs_i, gMod_i, gDiv_i, gMul_l, gMul_r, gPow_i, endsP_rt, endsP_nx, ret_ok, seqW_l, seqW_t, take_len, take_len2, Int.reduceLT, Int.reduceLE, Int.reducePow, Int.reduceNeg, Int.reduceToNat, Int.reduceSub, Int.reduceAdd])
section
variable {os : List Ob}
/-! ### the law's defs of trees -/
def Tr.graft : Tr → Tr → Tr → Tr
  | .yes, y, _ => y
  | .no, _, n => n
  | .fails w, _, _ => .fails w
  | .shows i t, y, n => .shows i (t.graft y n)
  | .does i a b, y, n => .does i (a.graft y n) (b.graft y n)
theorem F_grafted_eq {y z : Tr} : ∀ (n : Nat) (t : Tr), t.deep < n → F__law_grafted n [.d t.dt, .d y.dt, .d z.dt] os = some (.ok (.d (t.graft y z).dt) os [])
  | 0, _, h => absurd h (Nat.not_lt_zero _)
  | n + 1, t, h => by
    show runF _ (b__law_grafted (F__law_grafted n)) _ _ = _
    refine run_of ?_
    unfold b__law_grafted
    cases t with
    | yes => simp only [Tr.dt]; walk_at "wd"; rfl
    | no => simp only [Tr.dt]; walk_at "wd"; rfl
    | fails w => simp only [Tr.dt]; walk_at "wd"; rfl
    | shows i t =>
      simp only [Tr.dt]
      walk_at "wd"
      simp only [Tr.deep] at h
      rw [F_grafted_eq n t (by omega)]
      walk_at "wd"
      rfl
    | does i a b =>
      simp only [Tr.dt]
      walk_at "wd"
      simp only [Tr.deep] at h
      rw [F_grafted_eq n a (by omega)]
      walk_at "wd"
      rw [F_grafted_eq n b (by omega)]
      walk_at "wd"
      rfl
/-- all trees within -/
def Tr.all : Tr → List Tr
  | .yes => [.yes]
  | .no => [.no]
  | .fails w => [.fails w]
  | .shows i t => .shows i t :: t.all
  | .does i a b => .does i a b :: (a.all ++ b.all)
theorem cut1 {os : List Ob} {a : PyData} {r : List PyData} : gSl os (some 1) none (.d (.tuple (a :: r))) = some (.d (.tuple r)) := by
  show some (W.d (.tuple (cutL (a :: r) (some 1) none))) = _
  unfold cutL HT.sIx
  simp
theorem Tr.all_len : ∀ t : Tr, t.all.length + 1 ≤ 2 * 2 ^ t.deep
  | .yes => by simp [Tr.all, Tr.deep]
  | .no => by simp [Tr.all, Tr.deep]
  | .fails w => by simp [Tr.all, Tr.deep]
  | .shows i t => by
    have := Tr.all_len t
    have e2 : 2 ^ (t.deep + 1) = 2 * 2 ^ t.deep := by rw [Nat.pow_succ]; omega
    have e3 := Nat.one_le_two_pow (n := t.deep)
    simp [Tr.all, Tr.deep]; omega
  | .does i a b => by
    have h1 := Tr.all_len a
    have h2 := Tr.all_len b
    have e2 : 2 ^ (max a.deep b.deep + 1) = 2 * 2 ^ (max a.deep b.deep) := by rw [Nat.pow_succ]; omega
    have e3 : 2 ^ a.deep ≤ 2 ^ (max a.deep b.deep) := Nat.pow_le_pow_right (by omega) (Nat.le_max_left _ _)
    have e4 : 2 ^ b.deep ≤ 2 ^ (max a.deep b.deep) := Nat.pow_le_pow_right (by omega) (Nat.le_max_right _ _)
    simp [Tr.all, Tr.deep]; omega
theorem gAdd_ll {os : List Ob} {xs ys : List PyData} (h : xs.length + ys.length ≤ big) : gAdd os (.d (.list xs)) (.d (.list ys)) = some (.d (.list (xs ++ ys))) := by
  have e : ∀ zs : List PyData, (itemsL os (.d (.list zs))).bind datas = some zs := fun zs => datas_map
  show (match (itemsL os (.d (.list xs))).bind datas, (itemsL os (.d (.list ys))).bind datas with
    | some xs, some ys => if xs.length + ys.length ≤ big then some (W.d (.list (xs ++ ys))) else none
    | _, _ => none) = _
  rw [e, e]
  exact if_pos h
theorem two_pow20 {d : Nat} (h : d ≤ 10) : 2 ^ d ≤ 1024 := by
  have := Nat.pow_le_pow_right (n := 2) (by omega) h
  omega
theorem tyD_tr {t : Tr} : tyD t.dt = "tuple" := by cases t <;> rfl
theorem F_all_eq : ∀ (n : Nat) (t : Tr), t.deep < n → t.deep ≤ 10 → F__law_all_within n [.d t.dt] os = some (.ok (.d (.list (t.all.map Tr.dt))) os [])
  | 0, _, h, _ => absurd h (Nat.not_lt_zero _)
  | n + 1, t, h, hd => by
    have hl := t.all_len
    have hp := two_pow20 hd
    show runF _ (b__law_all_within (F__law_all_within n)) _ _ = _
    refine run_of ?_
    unfold b__law_all_within
    cases t with
    | yes =>
      simp only [Tr.dt]
      walk_at "wd"
      rw [cut1]
      walk_at "wd"
      simp only [wp_forN, wp_forC]
      walk_at "wd"
      rfl
    | no =>
      simp only [Tr.dt]
      walk_at "wd"
      rw [cut1]
      walk_at "wd"
      simp only [wp_forN, wp_forC]
      walk_at "wd"
      rfl
    | fails w =>
      simp only [Tr.dt]
      walk_at "wd"
      rw [cut1]
      walk_at "wd"
      simp only [wp_forN, wp_forC]
      walk_at "wd"
      rfl
    | shows i t =>
      simp only [Tr.deep, Tr.all] at h hl hd hp
      simp only [Tr.dt]
      walk_at "wd"
      rw [cut1]
      walk_at "wd"
      simp only [wp_forN, wp_forC]
      walk_at "wd"
      rw [F_all_eq n t (by omega) (by omega)]
      simp only [tyD_tr]
      walk_at "wd"
      rw [gAdd_ll (by simp at hl ⊢; unfold big; omega)]
      walk_at "wd"
      rfl
    | does i a b =>
      simp only [Tr.deep, Tr.all] at h hl hd hp
      simp only [Tr.dt]
      walk_at "wd"
      rw [cut1]
      walk_at "wd"
      simp only [wp_forN, wp_forC]
      walk_at "wd"
      rw [F_all_eq n a (by omega) (by omega)]
      simp only [tyD_tr]
      walk_at "wd"
      rw [gAdd_ll (by simp at hl ⊢; unfold big; omega)]
      walk_at "wd"
      rw [F_all_eq n b (by omega) (by omega)]
      walk_at "wd"
      rw [gAdd_ll (by simp at hl ⊢; unfold big; omega)]
      walk_at "wd"
      simp [Tr.all, Tr.dt]
      intro z
      rw [tyD_tr, isT_tuple_tuple] at z
      cases z
end
section
variable {os : List Ob}
/-! ### values judged by the law -/
theorem F_whole_eq {x : PyData} : F__law_is_whole [.d x] os = some (.ok (.d (.bool (isNum x))) os []) := by
  refine run_of ?_
  unfold b__law_is_whole
  walk_at "wd"
  cases x <;> (walk_at "wd"; simp [isNum])
theorem F_reserved_eq : F__law_reserved [] os = some (.ok (.d (.list (kept.map .str))) os []) := by
  refine run_of ?_
  unfold b__law_reserved
  walk_at "wd"
  rw [gAdd_ll (by simp [big])]
  walk_at "wd"
  rw [gAdd_ll (by simp [big])]
  walk_at "wd"
  rfl
theorem inS_one {c : Nat} : inS ⟨#[c]⟩ "abcdefghijklmnopqrstuvwxyz" = letterB c := rfl
theorem isNil_eq {os : List Ob} {xs : List Str} (h : ∀ x ∈ xs, PyData.strOk x = true) (hn : xs.length ≤ 64) : gEqA os (.d (.list (xs.map .str))) (.d (.list [])) = some (.d (.bool xs.isEmpty)) := by
  have e : gNilT os (.d (.list (xs.map .str))) (.d (.list [])) = none := rfl
  have c1 : ∀ l : List Str, (∀ x ∈ l, PyData.strOk x = true) → PyData.canLayAll0 (l.map .str) = true := by
    intro l hl
    induction l with
    | nil => rw [List.map_nil, PyData.canLayAll0]
    | cons a l ih => rw [List.map_cons, PyData.canLayAll0, PyData.canLay0, hl a List.mem_cons_self, ih fun x hx => hl x (List.mem_cons_of_mem _ hx)] <;> rfl
  have c2 : ∀ l : List Str, PyData.depthAll (l.map .str) = 0 := by
    intro l
    induction l with
    | nil => rw [List.map_nil, PyData.depthAll]
    | cons a l ih => rw [List.map_cons, PyData.depthAll, ih, PyData.depth] <;> rfl
  have s1 : SeqAt.shaped (.list (xs.map .str)) = true := by
    unfold SeqAt.shaped
    rw [PyData.canLay0, c1 xs h, PyData.depth, c2] <;> rfl
  have s2 : SeqAt.shaped (.list []) = true := by
    unfold SeqAt.shaped
    rw [PyData.canLay0, PyData.canLayAll0, PyData.depth, PyData.depthAll] <;> rfl
  unfold gEqA
  rw [e]
  unfold gEq dataW eqOk
  simp only [s1, s2, Bool.and_self, Bool.or_true, if_true]
  congr 3
  cases xs with
  | nil => rw [List.map_nil, PyData.eqv, PyData.eqvAll] <;> rfl
  | cons a xs => rw [List.map_cons, PyData.eqv, PyData.eqvAll] <;> rfl
theorem signs_eq (z : Str) : signs z = (z.cps.toList.map fun c => (⟨#[c]⟩ : Str)).map .str := by
  unfold signs
  rw [List.map_map] <;> rfl
theorem F_lname_eq {x : PyData} (hs : ∀ z, x = .str z → z.length ≤ big ∧ PyData.strOk z = true) : F__law_is_name [.d x] os = some (.ok (.d (.bool (isNm x))) os []) := by
  refine run_of ?_
  unfold b__law_is_name
  walk_at "wd"
  cases x with
  | str z =>
    obtain ⟨hz, hok⟩ := hs z rfl
    walk_at "wd"
    simp only [gLen, if_pos hz]
    walk_at "wd"
    by_cases h1 : (1 : Int) ≤ (z.length : Int)
    · by_cases h2 : (z.length : Int) ≤ 8
      · have h8 : z.length ≤ 8 := by omega
        have h9 : 1 ≤ z.length := by omega
        simp only [h1, h2]
        walk_at "wd"
        simp only [F_reserved_eq]
        walk_at "wd"
        rw [gInA_sL]
        walk_at "wd"
        refine ⟨fun hm => ?_, fun hm => ?_⟩
        · have : isNm (.str z) = false := by
            unfold isNm
            simp at hm
            simp [hm]
          rw [this]
        · have hm : z ∉ kept := by simpa using hm
          refine wp_comp_pure (fun x => match x with | .str c => if (!inS c "abcdefghijklmnopqrstuvwxyz") = true then [.str c] else [] | _ => []) (signs z) ?_
          walk_at "wd"
          simp only [seqW, seqD, Option.map_some, wpo_some, true_and]
          have e : (signs z).flatMap (fun x => match x with | .str c => if (!inS c "abcdefghijklmnopqrstuvwxyz") = true then [PyData.str c] else [] | _ => []) = ((z.cps.toList.filter fun c => !letterB c).map fun c => (⟨#[c]⟩ : Str)).map .str := by
            unfold signs
            generalize z.cps.toList = l
            induction l with
            | nil => rfl
            | cons c l ih =>
              rw [List.map_cons, List.flatMap_cons, ih, List.filter_cons]
              dsimp only
              rw [inS_one]
              cases letterB c <;> rfl
          have hlen : z.cps.toList.length = z.length := by simp [Str.length]
          have hfl := List.length_filter_le (fun c => !letterB c) z.cps.toList
          refine ⟨fun x hx => ?_, ?_, ?_⟩
          · obtain ⟨c, _, rfl⟩ := List.mem_map.mp hx
            simp only [tgS, wipeS, wpo_some]
            walk_at "wd"
            simp only [gInA, gDin, gIn, inW, inStr]
            walk_at "wd"
            refine ⟨fun h => ⟨_, rfl, ?_⟩, fun h => ?_⟩ <;> simp [h]
          · rw [e]
            simp only [List.length_map]
            omega
          · rw [e]
            rw [isNil_eq]
            · walk_at "wd"
              have : isNm (.str z) = (z.cps.toList.filter fun c => !letterB c).isEmpty := by
                unfold isNm madeB
                simp only [h9, h8, hm]
                generalize z.cps.toList = l
                induction l with
                | nil => rfl
                | cons c l ih =>
                  rw [List.all_cons, List.filter_cons]
                  cases letterB c with
                  | false => rfl
                  | true => simpa using ih
              rw [this]
              cases (z.cps.toList.filter fun c => !letterB c) <;> rfl
            · intro x hx
              obtain ⟨c, hc, rfl⟩ := List.mem_map.mp hx
              have hc := (List.mem_filter.mp hc).1
              unfold PyData.strOk at hok ⊢
              rw [← Array.all_toList] at hok ⊢
              simpa using List.all_eq_true.mp hok c hc
            · simp only [List.length_map]
              omega
      · have h8 : ¬ z.length ≤ 8 := by omega
        have : isNm (.str z) = false := by simp [isNm, madeB, h8]
        simp only [h1, h2, this]
        walk_at "wd"
    · have h9 : ¬ 1 ≤ z.length := by omega
      have : isNm (.str z) = false := by simp [isNm, madeB, h9]
      simp only [h1, this]
      walk_at "wd"
  | _ => walk_at "wd"; rfl
end
section
variable {os : List Ob}
mutual
/-- what a string within may be -/
def wS : PyData → Bool
  | .str z => PyData.strOk z
  | .tuple xs => wSs xs
  | _ => true
def wSs : List PyData → Bool
  | [] => true
  | x :: xs => wS x && wSs xs
end
theorem wS_str {x : PyData} (h : wS x = true) (hz : sz x ≤ big) : ∀ z, x = .str z → z.length ≤ big ∧ PyData.strOk z = true := fun z e => by
  subst e
  rw [wS] at h
  exact ⟨sz_str hz, h⟩
theorem isEmp_tt {xs : List PyData} : gEqA os (.d (.tuple xs)) (.d (.tuple [])) = some (.d (.bool xs.isEmpty)) := rfl
theorem isBelow_num {m : Int} {x : PyData} (h : isNum x = false) : isBelow m x = false := by
  cases x <;> first | rfl | cases h
theorem isNum_int {x : PyData} (h : isNum x = true) : ∃ i, x = .int i := by
  cases x with
  | int i => exact ⟨i, rfl⟩
  | _ => cases h
theorem F_ltree_eq {p : Int} : ∀ (n : Nat) (x : PyData), x.depth < n → wS x = true → sz x ≤ big → F__law_is_tree n [.d (.int p), .d x] os = some (.ok (.d (.bool (isTr p x))) os [])
  | 0, _, h, _, _ => absurd h (Nat.not_lt_zero _)
  | n + 1, x, h, hw, hz => by
    show runF _ (b__law_is_tree (F__law_is_tree n)) _ _ = _
    refine run_of ?_
    unfold b__law_is_tree
    cases x with
    | tuple xs =>
      cases xs with
      | nil =>
        walk_at "wd"
        simp only [isEmp_tt]
        walk_at "wd"
        simp [isTr]
      | cons y r =>
        cases y with
        | str hh =>
          walk_at "wd"
          simp only [isEmp_tt]
          walk_at "wd"
          simp only [List.isEmpty_cons]
          walk_at "wd"
          by_cases c1 : hh = "yes" ∨ hh = "no"
          · have c1' : (decide (hh = "yes") || decide (hh = "no")) = true := by simpa using c1
            simp only [c1']
            walk_at "wd"
            rw [isTr_yn c1]
            congr 4
            cases r with
            | nil => rfl
            | cons a r => simp; omega
          · have c1' : (decide (hh = "yes") || decide (hh = "no")) = false := by simpa using c1
            simp only [c1']
            walk_at "wd"
            by_cases c2 : hh = "fails"
            · subst c2
              walk_at "wd"
              by_cases hlen : ((r.length + 1 : Nat) : Int) = 2
              · obtain ⟨i, rfl⟩ : ∃ i, r = [i] := by
                  match r, hlen with
                  | [i], _ => exact ⟨i, rfl⟩
                  | [], h => simp at h
                  | _ :: _ :: _, h => simp at h; omega
                simp only [hlen]
                walk_at "wd"
                simp only [wS, wSs, Bool.and_true, Bool.and_eq_true_iff] at hw
                simp only [sz, szs] at hz
                rw [F_lname_eq (wS_str hw.2 (by omega))]
                walk_at "wd"
                simp [isTr]
              · have hl3 : r.length ≠ 1 := fun z => hlen (by rw [z]; rfl)
                simp only [hlen]
                walk_at "wd"
                rw [isTr_len1 hl3]
            · simp only [c2]
              walk_at "wd"
              by_cases c3 : hh = "shows"
              · subst c3
                walk_at "wd"
                by_cases hlen : ((r.length + 1 : Nat) : Int) = 3
                · obtain ⟨i, a, rfl⟩ : ∃ i a, r = [i, a] := by
                    match r, hlen with
                    | [i, a], _ => exact ⟨i, a, rfl⟩
                    | [], h => simp at h
                    | [_], h => simp at h
                    | _ :: _ :: _ :: _, h => simp at h; omega
                  simp only [hlen]
                  walk_at "wd"
                  rw [F_whole_eq]
                  walk_at "wd"
                  simp only [wS, wSs, Bool.and_true, Bool.and_eq_true_iff] at hw
                  simp only [sz, szs] at hz
                  have e : isTr p (.tuple [.str "shows", i, a]) = (isBelow 8 i && isTr p a) := by simp [isTr]
                  rw [e]
                  refine ⟨fun hi => ?_, fun hi => ?_⟩
                  · rw [isBelow_num (by simpa using hi)]; simp
                  · obtain ⟨j, rfl⟩ := isNum_int (x := i) (by simpa using hi)
                    walk_at "wd"
                    have ih := F_ltree_eq (p := p) n a (by simp [PyData.depth, PyData.depthAll] at h; omega) hw.2.2 (by omega)
                    simp only [ih]
                    walk_at "wd"
                    by_cases j0 : 0 ≤ j
                    · by_cases j1 : j < 8
                      · simp only [j0, j1, isBelow]
                        walk_at "wd"
                        cases isTr p a <;> simp
                      · simp only [j0, j1, isBelow]
                        walk_at "wd"
                    · simp only [j0, isBelow]
                      walk_at "wd"
                · have hl3 : r.length ≠ 2 := fun z => hlen (by rw [z]; rfl)
                  simp only [hlen]
                  walk_at "wd"
                  rw [isTr_len2 hl3]
              · simp only [c3]
                walk_at "wd"
                by_cases c4 : hh = "does"
                · subst c4
                  walk_at "wd"
                  by_cases hlen : ((r.length + 1 : Nat) : Int) = 4
                  · obtain ⟨i, a, b, rfl⟩ : ∃ i a b, r = [i, a, b] := by
                      match r, hlen with
                      | [i, a, b], _ => exact ⟨i, a, b, rfl⟩
                      | [], h => simp at h
                      | [_], h => simp at h
                      | [_, _], h => simp at h
                      | _ :: _ :: _ :: _ :: _, h => simp at h; omega
                    simp only [hlen]
                    walk_at "wd"
                    rw [F_whole_eq]
                    walk_at "wd"
                    simp only [wS, wSs, Bool.and_true, Bool.and_eq_true_iff] at hw
                    simp only [sz, szs] at hz
                    have e : isTr p (.tuple [.str "does", i, a, b]) = (isBelow p i && (isTr p a && isTr p b)) := by simp [isTr]
                    rw [e]
                    refine ⟨fun hi => ?_, fun hi => ?_⟩
                    · rw [isBelow_num (by simpa using hi)]; simp
                    · obtain ⟨j, rfl⟩ := isNum_int (x := i) (by simpa using hi)
                      walk_at "wd"
                      have iha := F_ltree_eq (p := p) n a (by simp [PyData.depth, PyData.depthAll] at h; omega) hw.2.2.1 (by omega)
                      have ihb := F_ltree_eq (p := p) n b (by simp [PyData.depth, PyData.depthAll] at h; omega) hw.2.2.2 (by omega)
                      simp only [iha, ihb]
                      walk_at "wd"
                      simp only [ihb]
                      walk_at "wd"
                      by_cases j0 : 0 ≤ j
                      · by_cases j1 : j < p
                        · simp only [j0, j1, isBelow]
                          walk_at "wd"
                          cases isTr p a <;> simp
                        · simp only [j0, j1, isBelow]
                          walk_at "wd"
                      · simp only [j0, isBelow]
                        walk_at "wd"
                  · have hl3 : r.length ≠ 3 := fun z => hlen (by rw [z]; rfl)
                    simp only [hlen]
                    walk_at "wd"
                    rw [isTr_len3 hl3]
                · simp only [c4]
                  walk_at "wd"
                  rw [isTr_other (y := .tuple (.str hh :: r)) c4 c3 c2 c1]
        | _ =>
          walk_at "wd"
          simp only [isEmp_tt]
          walk_at "wd"
          simp [isTr]
    | _ =>
      walk_at "wd"
      simp [isTr]
end
section
variable {os : List Ob}
/-! ### what a cut becomes -/
abbrev En : Type := Option Tr × Option Tr
def Tr.bec : Tr → Tr → En → Bool × En
  | .yes, t, E => match E.1 with
    | none => (true, (some t, E.2))
    | some u => (decide (u = t), E)
  | .no, t, E => match E.2 with
    | none => (true, (E.1, some t))
    | some u => (decide (u = t), E)
  | .fails w, t, E => (decide (Tr.fails w = t), E)
  | .shows i c, .shows j t, E => if i = j then c.bec t E else (false, E)
  | .does i c d, .does j t u, E => if i = j then (if (c.bec t E).1 = true then d.bec u (c.bec t E).2 else (false, (c.bec t E).2)) else (false, E)
  | _, _, E => (false, E)
def nmE (b : Bool) : Str := if b then "yes" else "no"
theorem nmE_t : nmE true = "yes" := rfl
theorem nmE_f : nmE false = "no" := rfl
theorem nmE_inj {a b : Bool} : nmE a = nmE b ↔ a = b := by
  cases a <;> cases b <;> simp [nmE, ne_yes_no, ne_no_yes]
def kvE (l : List (Bool × Tr)) : List (PyData × W) := l.map fun q => (.str (nmE q.1), .d q.2.dt)
structure KV (o : Ob) (E : En) : Prop where
  ex : ∃ l : List (Bool × Tr), o = .dct (kvE l) ∧ (l.map (·.1)).Nodup ∧ l.lookup true = E.1 ∧ l.lookup false = E.2
theorem val_kvE {b : Bool} : ∀ l : List (Bool × Tr), valO keyK (kvE l) (.inr (nmE b)) = (l.lookup b).map fun t => .d t.dt
  | [] => rfl
  | (c, t) :: l => by
    show valO keyK ((.str (nmE c), .d t.dt) :: kvE l) (.inr (nmE b)) = _
    rw [key_lit, List.lookup_cons, val_kvE l]
    by_cases h : c = b
    · subst h; simp
    · have h2 : ¬ nmE c = nmE b := fun z => h (nmE_inj.mp z)
      rw [if_neg h2, beq_false_of_ne (fun z => h z.symm)]
theorem put_kvE {b : Bool} {t : Tr} {l : List (Bool × Tr)} (h : l.lookup b = none) : putO keyK (kvE l) (.inr (nmE b)) (.str (nmE b)) (.d t.dt) = kvE (l ++ [(b, t)]) := by
  unfold putO
  rw [val_kvE, h]
  simp [kvE]
theorem lookup_notin {b : Bool} : ∀ {l : List (Bool × Tr)}, l.lookup b = none → b ∉ l.map (·.1)
  | [], _ => by simp
  | (c, t) :: l, h => by
    rw [List.lookup_cons] at h
    by_cases e : b = c
    · subst e; simp at h
    · rw [beq_false_of_ne e] at h
      simp only [List.map_cons, List.mem_cons, not_or]
      exact ⟨e, lookup_notin h⟩
theorem nodup_bool : ∀ {l : List Bool}, l.Nodup → l.length ≤ 2
  | [], _ => by simp
  | [_], _ => by simp
  | [_, _], _ => by simp
  | a :: b :: c :: _, h => by
    simp only [List.nodup_cons, List.mem_cons, not_or] at h
    obtain ⟨⟨h1, h2, _⟩, ⟨h3, _⟩, _⟩ := h
    cases a <;> cases b <;> cases c <;> simp_all
theorem lookup_app {b c : Bool} {t : Tr} : ∀ {l : List (Bool × Tr)}, l.lookup b = none → (l ++ [(b, t)]).lookup c = if c = b then some t else l.lookup c
  | [], _ => by
    show List.lookup c [(b, t)] = _
    rw [List.lookup_cons]
    by_cases e : c = b
    · subst e; simp
    · rw [beq_false_of_ne e, if_neg e]
  | (d, u) :: l, h => by
    rw [List.lookup_cons] at h
    by_cases e : b = d
    · subst e; simp at h
    · rw [beq_false_of_ne e] at h
      rw [List.cons_append, List.lookup_cons, List.lookup_cons, lookup_app h]
      by_cases e2 : c = d
      · subst e2; simp [Ne.symm e]
      · rw [beq_false_of_ne e2]
theorem KV.get {o : Ob} {E : En} {k : Nat} (h : KV o E) (hk : os[k]? = some o) (b : Bool) : getO os[k]? (.str (nmE b)) = (if b then E.1 else E.2).map fun t => .d t.dt := by
  obtain ⟨l, rfl, _, h1, h2⟩ := h.ex
  rw [hk]
  show (keyK (.str (nmE b))).bind (fun k => valO keyK (kvE l) k) = _
  show valO keyK (kvE l) (.inr (nmE b)) = _
  rw [val_kvE]
  cases b
  · rw [h2]; rfl
  · rw [h1]; rfl
theorem KV.has {o : Ob} {E : En} {k : Nat} (h : KV o E) (hk : os[k]? = some o) (b : Bool) (neg : Bool) : gInA neg os (.d (.str (nmE b))) (.obj k) = some (.d (.bool ((if b then E.1 else E.2).isSome != neg))) := by
  obtain ⟨l, rfl, _, h1, h2⟩ := h.ex
  have e : gDin os (.d (.str (nmE b))) (.obj k) = some ((if b then E.1 else E.2).isSome) := by
    show hasO os[k]? (.str (nmE b)) = _
    rw [hk]
    show some ((valO keyK (kvE l) (.inr (nmE b))).isSome) = _
    rw [val_kvE, Option.isSome_map]
    cases b
    · rw [h2]; rfl
    · rw [h1]; rfl
  unfold gInA
  rw [e]
theorem KV.put {o : Ob} {E : En} {k : Nat} {t : Tr} (h : KV o E) (hk : os[k]? = some o) (b : Bool) (hn : (if b then E.1 else E.2) = none) : ∃ o', stAny os (.obj k) (.d (.str (nmE b))) (.d t.dt) = some (os.set k o', []) ∧ KV o' (if b then (some t, E.2) else (E.1, some t)) := by
  obtain ⟨l, rfl, nd, h1, h2⟩ := h.ex
  have hl : l.lookup b = none := by
    cases b
    · rw [h2]; exact hn
    · rw [h1]; exact hn
  have hle : l.length ≤ 2 := by
    have := nodup_bool nd
    simpa using this
  refine ⟨.dct (kvE (l ++ [(b, t)])), ?_, l ++ [(b, t)], rfl, ?_, ?_, ?_⟩
  · rw [st_o (o := .dct (kvE (l ++ [(b, t)])))]
    · rfl
    · rw [hk]
      show (if (kvE l).length < big then (keyK (.str (nmE b))).map (fun k => Ob.dct (putO keyK (kvE l) k (.str (nmE b)) (.d t.dt))) else none) = _
      rw [if_pos (by unfold kvE big; rw [List.length_map]; omega)]
      show some (Ob.dct (putO keyK (kvE l) (.inr (nmE b)) (.str (nmE b)) (.d t.dt))) = _
      rw [put_kvE hl]
  · rw [List.map_append, List.nodup_append]
    refine ⟨nd, by simp, fun x hx y hy => ?_⟩
    have : y = b := by simpa using hy
    subst this
    exact fun z => lookup_notin hl (z ▸ hx)
  · rw [lookup_app hl]
    cases b
    · simp [h1]
    · simp
  · rw [lookup_app hl]
    cases b
    · simp
    · simp [h2]
theorem fin_set {k : Nat} {o : Ob} {sl : List (Option W)} {x : PyData} : fin os.length (.d x) ⟨sl, os.set k o, []⟩ = .ok (.d x) (os.set k o) [] := by
  rw [fin_d, allNew_nil, if_pos rfl]
  congr 1
  have : os.length = (os.set k o).length := by rw [List.length_set]
  rw [this, List.take_length]
theorem set_self {k : Nat} {o : Ob} (hk : os[k]? = some o) : os.set k o = os := by
  apply List.ext_getElem?
  intro i
  by_cases h : k = i
  · subst h
    rw [List.getElem?_set_self (List.getElem?_eq_some_iff.mp hk).1, hk]
  · rw [List.getElem?_set_ne h]
/-- all trees known are good -/
def EnOk (E : En) : Prop := (∀ t, E.1 = some t → t.wok ∧ t.deep ≤ 60) ∧ ∀ t, E.2 = some t → t.wok ∧ t.deep ≤ 60
theorem hdlt {t : Tr} : ∃ z r, t.dt = .tuple (.str z :: r) := by
  cases t <;> exact ⟨_, _, rfl⟩
end
section
theorem bec_ok : ∀ (c t : Tr) (E : En), t.wok → t.deep ≤ 60 → EnOk E → EnOk (c.bec t E).2
  | .yes, t, (y, n), h1, h2, h => by
    unfold Tr.bec
    cases y with
    | none => exact ⟨fun u e => by cases e; exact ⟨h1, h2⟩, h.2⟩
    | some u => exact h
  | .no, t, (y, n), h1, h2, h => by
    unfold Tr.bec
    cases n with
    | none => exact ⟨h.1, fun u e => by cases e; exact ⟨h1, h2⟩⟩
    | some u => exact h
  | .fails w, t, E, _, _, h => h
  | .shows i c, t, E, h1, h2, h => by
    cases t with
    | shows j t =>
      simp only [Tr.bec]
      split
      · exact bec_ok c t E h1 (by simp only [Tr.deep] at h2; omega) h
      · exact h
    | _ => exact h
  | .does i c d, t, E, h1, h2, h => by
    cases t with
    | does j t u =>
      simp only [Tr.deep] at h2
      have hc := bec_ok c t E h1.1 (by omega) h
      simp only [Tr.bec]
      split
      · split
        · exact bec_ok d u _ h1.2 (by omega) hc
        · exact hc
      · exact h
    | _ => exact h
abbrev PB (os : List Ob) (k : Nat) (b : Bool) (E : En) (r : Rs) : Prop := ∃ o', r = .ok (.d (.bool b)) (os.set k o') [] ∧ KV o' E
theorem gEqA_str0 {os : List Ob} {a b : Str} : gEqA os (.d (.str a)) (.d (.str b)) = some (.d (.bool (decide (a = b)))) := gEqA_s
theorem bec_other {c t : Tr} {E : En} {os : List Ob} {k : Nat} {o : Ob} (ho : os[k]? = some o) (hk : KV o E) (hne : c ≠ t) (he : c.bec t E = (false, E)) {sl : List (Option W)} : PB os k (c.bec t E).1 (c.bec t E).2 (fin os.length (.d (.bool (decide (c = t)))) ⟨sl, os, []⟩) := by
  refine ⟨o, ?_, ?_⟩
  · rw [he, set_self ho, fin_d, allNew_nil, if_pos rfl, List.take_length, decide_eq_false hne]
  · rw [he]; exact hk
theorem KV.ix {o : Ob} {E : En} {k : Nat} {u : Tr} {os : List Ob} (h : KV o E) (hk : os[k]? = some o) (b : Bool) (hu : (if b then E.1 else E.2) = some u) : gIxA os (.obj k) (.d (.str (nmE b))) = some (.d u.dt) := by
  rw [get_o, h.get hk b, hu] <;> rfl
set_option maxHeartbeats 8000000 in
theorem F_bec_eq : ∀ (n : Nat) (c t : Tr) (E : En) (os : List Ob) (k : Nat) (o : Ob), c.deep < n → c.wok → t.wok → c.deep ≤ 60 → t.deep ≤ 60 → EnOk E → os[k]? = some o → KV o E →
    ∃ r, F__law_becomes n [.d c.dt, .d t.dt, .obj k] os = some r ∧ PB os k (c.bec t E).1 (c.bec t E).2 r
  | 0, _, _, _, _, _, _, h, _, _, _, _, _, _, _ => absurd h (Nat.not_lt_zero _)
  | n + 1, c, t, E, os, k, o, h, hc, ht, hcd, htd, hE, ho, hk => by
    show ∃ r, runF _ (b__law_becomes (F__law_becomes n)) _ _ = some r ∧ _
    refine run_ex ?_
    unfold b__law_becomes
    have eqt : ∀ {os : List Ob}, gEqA os (.d c.dt) (.d t.dt) = some (.d (.bool (decide (c = t)))) := gEqA_tr hc hcd ht htd
    have hlt := (List.getElem?_eq_some_iff.mp ho).1
    cases c with
    | yes =>
      obtain ⟨E1, E2⟩ := E
      have hs := hk.has ho true
      rw [nmE_t] at hs
      simp only [Tr.dt]
      walk_at "wd"
      simp only [hs]
      walk_at "wd"
      cases E1 with
      | none =>
        obtain ⟨o', e1, k1⟩ := hk.put (t := t) ho true rfl
        have hg' := k1.ix (u := t) (os := os.set k o') (List.getElem?_set_self hlt) true rfl
        rw [nmE_t] at e1 hg'
        simp only [e1]
        walk_at "wd"
        simp only [hg']
        walk_at "wd"
        rw [gEqA_tr ht htd ht htd]
        simp only [decide_true]
        walk_at "wd"
        refine ⟨fun _ => ⟨o', fin_set (sl := []), k1⟩, fun z => ?_⟩
        simp at z
      | some u =>
        have hg := hk.ix (u := u) ho true rfl
        rw [nmE_t] at hg
        simp only [hg]
        simp
        walk_at "wd"
        rw [gEqA_tr (hE.1 u rfl).1 (hE.1 u rfl).2 ht htd]
        walk_at "wd"
        refine ⟨o, ?_, hk⟩
        rw [set_self ho]
        rfl
    | no =>
      obtain ⟨E1, E2⟩ := E
      have hs := hk.has ho false
      rw [nmE_f] at hs
      simp only [Tr.dt]
      walk_at "wd"
      simp only [hs]
      walk_at "wd"
      cases E2 with
      | none =>
        obtain ⟨o', e1, k1⟩ := hk.put (t := t) ho false rfl
        have hg' := k1.ix (u := t) (os := os.set k o') (List.getElem?_set_self hlt) false rfl
        rw [nmE_f] at e1 hg'
        simp only [e1]
        walk_at "wd"
        simp only [hg']
        walk_at "wd"
        rw [gEqA_tr ht htd ht htd]
        simp only [decide_true]
        walk_at "wd"
        refine ⟨fun _ => ⟨o', fin_set (sl := []), k1⟩, fun z => ?_⟩
        simp at z
      | some u =>
        have hg := hk.ix (u := u) ho false rfl
        rw [nmE_f] at hg
        simp only [hg]
        simp
        walk_at "wd"
        rw [gEqA_tr (hE.2 u rfl).1 (hE.2 u rfl).2 ht htd]
        walk_at "wd"
        refine ⟨o, ?_, hk⟩
        rw [set_self ho]
        rfl
    | fails w =>
      have fin : PB os k ((Tr.fails w).bec t E).1 ((Tr.fails w).bec t E).2 (.ok (.d (.bool (decide (Tr.fails w = t)))) os []) := ⟨o, by rw [set_self ho]; rfl, hk⟩
      obtain ⟨z, r, e⟩ := hdlt (t := t)
      rw [show (Tr.fails w).dt = .tuple [.str "fails", .str w] from rfl] at eqt ⊢
      rw [e] at eqt ⊢
      walk_at "wd"
      simp only [eqt]
      walk_at "wd"
      exact ⟨fun _ => fin, fun _ => fin⟩
    | shows i c =>
      have hne : ∀ z r, t.dt = .tuple (.str z :: r) → z ≠ "shows" → (Tr.shows i c).bec t E = (false, E) ∧ Tr.shows i c ≠ t := fun z r e hz => by
        cases t <;> first | exact ⟨rfl, fun q => nomatch q⟩ | (simp only [Tr.dt] at e; cases e; exact absurd rfl hz)
      have other : Tr.shows i c ≠ t → (Tr.shows i c).bec t E = (false, E) → PB os k ((Tr.shows i c).bec t E).1 ((Tr.shows i c).bec t E).2 (.ok (.d (.bool (decide (Tr.shows i c = t)))) os []) := fun b2 b1 => ⟨o, by rw [b1, set_self ho, decide_eq_false b2], by rw [b1]; exact hk⟩
      obtain ⟨z, r, e⟩ := hdlt (t := t)
      by_cases hz : z = "shows"
      · subst hz
        obtain ⟨j, u, rfl⟩ : ∃ j u, t = Tr.shows j u := by
          cases t with
          | shows j u => exact ⟨j, u, rfl⟩
          | _ => simp only [Tr.dt] at e; cases e
        rw [show (Tr.shows i c).dt = .tuple [.str "shows", .int i, c.dt] from rfl] at eqt ⊢
        rw [show (Tr.shows j u).dt = .tuple [.str "shows", .int j, u.dt] from rfl] at eqt ⊢
        walk_at "wd"
        by_cases hij : i = j
        · subst hij
          simp only [Tr.deep] at h hcd htd
          obtain ⟨r, e1, o', rfl, k1⟩ := F_bec_eq n c u E os k o (by omega) hc ht (by omega) (by omega) hE ho hk
          have eb : (Tr.shows i c).bec (Tr.shows i u) E = c.bec u E := by simp [Tr.bec]
          rw [eb]
          simp only [e1]
          walk_at "wd"
          cases (c.bec u E).1 with
          | true => simp; exact ⟨o', fin_set (sl := []), k1⟩
          | false => simp; exact ⟨o', fin_set (sl := []), k1⟩
        · simp only [hij]
          walk_at "wd"
          simp only [eqt]
          walk_at "wd"
          exact other (fun q => by cases q; exact hij rfl) (by simp [Tr.bec, hij])
      · obtain ⟨b1, b2⟩ := hne z r e hz
        have ez : decide (("shows" : Str) = z) = false := decide_eq_false (Ne.symm hz)
        rw [show (Tr.shows i c).dt = .tuple [.str "shows", .int i, c.dt] from rfl] at eqt ⊢
        rw [e] at eqt ⊢
        walk_at "wd"
        simp only [ez]
        walk_at "wd"
        simp only [eqt]
        walk_at "wd"
        exact other b2 b1
    | does i c d =>
      have hne : ∀ z r, t.dt = .tuple (.str z :: r) → z ≠ "does" → (Tr.does i c d).bec t E = (false, E) ∧ Tr.does i c d ≠ t := fun z r e hz => by
        cases t <;> first | exact ⟨rfl, fun q => nomatch q⟩ | (simp only [Tr.dt] at e; cases e; exact absurd rfl hz)
      have other : Tr.does i c d ≠ t → (Tr.does i c d).bec t E = (false, E) → PB os k ((Tr.does i c d).bec t E).1 ((Tr.does i c d).bec t E).2 (.ok (.d (.bool (decide (Tr.does i c d = t)))) os []) := fun b2 b1 => ⟨o, by rw [b1, set_self ho, decide_eq_false b2], by rw [b1]; exact hk⟩
      obtain ⟨z, r, e⟩ := hdlt (t := t)
      by_cases hz : z = "does"
      · subst hz
        obtain ⟨j, u, v, rfl⟩ : ∃ j u v, t = Tr.does j u v := by
          cases t with
          | does j u v => exact ⟨j, u, v, rfl⟩
          | _ => simp only [Tr.dt] at e; cases e
        rw [show (Tr.does i c d).dt = .tuple [.str "does", .int i, c.dt, d.dt] from rfl] at eqt ⊢
        rw [show (Tr.does j u v).dt = .tuple [.str "does", .int j, u.dt, v.dt] from rfl] at eqt ⊢
        walk_at "wd"
        by_cases hij : i = j
        · subst hij
          simp only [Tr.deep] at h hcd htd
          obtain ⟨r, e1, o', rfl, k1⟩ := F_bec_eq n c u E os k o (by omega) hc.1 ht.1 (by omega) (by omega) hE ho hk
          simp only [e1]
          walk_at "wd"
          cases hb : (c.bec u E).1 with
          | true =>
            have eb : (Tr.does i c d).bec (Tr.does i u v) E = d.bec v (c.bec u E).2 := by simp [Tr.bec, hb]
            rw [eb]
            obtain ⟨r2, e2, o2, rfl, k2⟩ := F_bec_eq n d v (c.bec u E).2 (os.set k o') k o' (by omega) hc.2 ht.2 (by omega) (by omega) (bec_ok c u E ht.1 (by omega) hE) (List.getElem?_set_self hlt) k1
            simp
            try walk_at "wd"
            simp only [e2]
            walk_at "wd"
            rw [List.set_set]
            exact ⟨o2, fin_set (sl := []), k2⟩
          | false =>
            have eb : (Tr.does i c d).bec (Tr.does i u v) E = (false, (c.bec u E).2) := by simp [Tr.bec, hb]
            rw [eb]
            simp
            try walk_at "wd"
            exact ⟨o', fin_set (sl := []), k1⟩
        · simp only [hij]
          walk_at "wd"
          simp only [eqt]
          walk_at "wd"
          exact other (fun q => by cases q; exact hij rfl) (by simp [Tr.bec, hij])
      · obtain ⟨b1, b2⟩ := hne z r e hz
        have ez : decide (("does" : Str) = z) = false := decide_eq_false (Ne.symm hz)
        rw [show (Tr.does i c d).dt = .tuple [.str "does", .int i, c.dt, d.dt] from rfl] at eqt ⊢
        rw [e] at eqt ⊢
        walk_at "wd"
        simp only [ez]
        walk_at "wd"
        simp only [eqt]
        walk_at "wd"
        exact other b2 b1
end
section
variable {os : List Ob}
/-! ### the law's own word on cuts -/
def cutOf (c t : Tr) : Bool := t.all.any fun u => (c.bec u (none, none)).1
theorem KV.new : KV (.dct []) (none, none) := ⟨[], rfl, by simp, rfl, rfl⟩
theorem F_lcut_eq {c : Tr} (hc : c.wok) (hcd : c.deep < 30) : ∀ {us : List Tr}, (∀ u ∈ us, u.wok ∧ u.deep ≤ 60) → F__law_is_cut [.d (.list (us.map Tr.dt)), .d c.dt] os = some (.ok (.d (.bool (us.any fun u => (c.bec u (none, none)).1))) os []) := fun {us} hu => by
  refine run_of ?_
  unfold b__law_is_cut
  walk_at "wd"
  refine wp_forI (fun ws s => ∃ vs : List Tr, ws = (vs.map Tr.dt).map .d ∧ (∀ u ∈ vs, u.wok ∧ u.deep ≤ 60) ∧ (us.any fun u => (c.bec u (none, none)).1) = (vs.any fun u => (c.bec u (none, none)).1) ∧ ∃ h2 more, s = ⟨[some (.d (.list (us.map Tr.dt))), some (.d c.dt), h2], os ++ more, []⟩) ?_ ?_ ?_
  · exact ⟨us, rfl, hu, rfl, none, [], by simp⟩
  · rintro w ws s ⟨vs, hv, hu2, he, h2, more, rfl⟩
    cases vs with
    | nil => cases hv
    | cons v vs =>
      obtain ⟨rfl, rfl⟩ := List.cons.inj hv
      obtain ⟨hw, hd⟩ := hu2 v List.mem_cons_self
      walk_at "wd"
      obtain ⟨r, e, o', rfl, _⟩ := F_bec_eq 30 c v (none, none) (os ++ more ++ [.dct []]) (os ++ more).length (.dct []) hcd hc hw (by omega) hd ⟨fun _ z => (nomatch z), fun _ z => (nomatch z)⟩ (by simp) KV.new
      simp only [e]
      walk_at "wd"
      rw [List.any_cons] at he
      refine ⟨fun h => ?_, fun h => ?_⟩
      · rw [he, h]
        simp only [Bool.true_or]
        congr 1
        rw [List.append_assoc, List.take_left']
        rfl
      · refine ⟨vs, rfl, fun u hu => hu2 u (List.mem_cons_of_mem _ hu), by rw [he, h, Bool.false_or], some (.d v.dt), more ++ [o'], ?_⟩
        rw [List.append_assoc]
  · rintro s ⟨vs, hv, _, he, h2, more, rfl⟩
    cases vs with
    | nil =>
      rw [he]
      walk_at "wd"
      simp
    | cons v vs => cases hv
end
section
variable {os : List Ob} {n a : Nat} {d : DS}
/-! ### things drawn -/
theorem F_drawn_eq [k : DOk os n a] {p : Int} (p0 : 0 < p) (p1 : p ≤ 4) : ∀ (f : Nat) (dp b : Nat) (d : DS), dp < f → d.ok (b + (4 * 2 ^ dp - 2)) → Tells (F__law_drawn_tree f) [.obj n, .d (.int p), .d (.int dp)] (Dr os n a d) fun x os' => (∃ t : Tr, x = t.dt ∧ t.ok p = true ∧ t.deep ≤ dp) ∧ Dn os n a b os'
  | 0, _, _, _, h, _ => absurd h (Nat.not_lt_zero _)
  | f + 1, dp, b, d, h, hd => by
    show Tells (runF _ (b__law_drawn_tree (F__law_drawn_tree f))) _ _ _
    refine Tells.run ?_
    unfold b__law_drawn_tree
    have hp := Nat.one_le_two_pow (n := dp)
    walk_at "wd"
    refine post_t (F_take_eq (b := b + (4 * 2 ^ dp - 2) - 1) (hd.le (by omega)) (m := 6) (by decide) (by decide)) ?_
    rintro x os' ⟨⟨i, rfl, i0, i1⟩, d1, hd1, rfl⟩
    walk_at "wd"
    have leaf : Tells F__law_pick [.obj n, .d (.list [.tuple [.str "yes"], .tuple [.str "yes"], .tuple [.str "no"], .tuple [.str "no"], .tuple [.str "fails", .str "w"]])] (Dr os n a d1) fun x os' => (∃ t : Tr, x = t.dt ∧ t.ok p = true ∧ t.deep ≤ dp) ∧ Dn os n a b os' := by
      refine (F_pick_eq (b := b) (hd1.le (by omega)) (by simp) (by simp)).mono fun x os' ⟨hx, hdn⟩ => ⟨?_, hdn⟩
      have nm : isNm (.str "w") = true := by decide +kernel
      simp only [List.mem_cons, List.not_mem_nil, or_false] at hx
      rcases hx with rfl | rfl | rfl | rfl | rfl
      · exact ⟨.yes, rfl, rfl, Nat.zero_le _⟩
      · exact ⟨.yes, rfl, rfl, Nat.zero_le _⟩
      · exact ⟨.no, rfl, rfl, Nat.zero_le _⟩
      · exact ⟨.no, rfl, rfl, Nat.zero_le _⟩
      · exact ⟨.fails "w", rfl, nm, Nat.zero_le _⟩
    have lf : post (F__law_pick [.obj n, .d (.list [.tuple [.str "yes"], .tuple [.str "yes"], .tuple [.str "no"], .tuple [.str "no"], .tuple [.str "fails", .str "w"]])] (Dr os n a d1)) ⟨[some (.obj n), some (.d (.int p)), some (.d (.int dp)), some (.d (.int i)), none, none], Dr os n a d1, []⟩
        (fun w s1 => Ret (fun x os' => (∃ t : Tr, x = t.dt ∧ t.ok p = true ∧ t.deep ≤ dp) ∧ Dn os n a b os') (FL.fin (Dr os n a d).length w s1)) fun _ _ => False := by
      refine post_t leaf ?_
      rintro x os' ⟨hx, d2, hd2, rfl⟩
      walk_at "wd"
      exact ⟨hx, d2, hd2, rfl⟩
    refine ⟨fun _ => lf, fun c1 => ⟨fun _ => lf, fun c2 => ?_⟩⟩
    have hdp : dp ≠ 0 := fun z => by simp [z] at c1
    obtain ⟨e, rfl⟩ := Nat.exists_eq_succ_of_ne_zero hdp
    have he : ((e.succ : Nat) : Int) - 1 = (e : Int) := by omega
    have hpe : 2 ^ e.succ = 2 * 2 ^ e := by rw [Nat.pow_succ]; omega
    have hpe1 := Nat.one_le_two_pow (n := e)
    rw [hpe] at hd1
    refine ⟨fun c3 => ?_, fun c3 => ⟨fun c4 => ?_, fun c4 => ?_⟩⟩
    · refine post_t (F_take_eq (b := b + (4 * 2 ^ e - 2)) (hd1.le (by omega)) (m := 3) (by decide) (by decide)) ?_
      rintro x os' ⟨⟨j, rfl, j0, j1⟩, d2, hd2, rfl⟩
      walk_at "wd"
      rw [he]
      refine post_t (F_drawn_eq (p := p) p0 p1 f e b d2 (by omega) hd2) ?_
      rintro x os' ⟨⟨t, rfl, ht, htd⟩, d3, hd3, rfl⟩
      walk_at "wd"
      exact ⟨⟨.shows j t, rfl, by simp [Tr.ok, isBelow, ht]; omega, by simp only [Tr.deep]; omega⟩, d3, hd3, rfl⟩
    · exfalso
      simp at c4
      omega
    · rw [he]
      refine post_t (F_drawn_eq (p := p) p0 p1 f e (b + 1 + (4 * 2 ^ e - 2)) d1 (by omega) (hd1.le (by omega))) ?_
      rintro x os' ⟨⟨t, rfl, ht, htd⟩, d2, hd2, rfl⟩
      walk_at "wd"
      rw [he]
      refine post_t (F_drawn_eq (p := p) p0 p1 f e (b + 1) d2 (by omega) hd2) ?_
      rintro x os' ⟨⟨u, rfl, hu, hud⟩, d3, hd3, rfl⟩
      walk_at "wd"
      refine post_t (F_take_eq (b := b) hd3 (m := p) p0 (by omega)) ?_
      rintro x os' ⟨⟨j, rfl, j0, j1⟩, d4, hd4, rfl⟩
      walk_at "wd"
      exact ⟨⟨.does j t u, rfl, by simp [Tr.ok, isBelow, ht, hu]; omega, by simp only [Tr.deep]; omega⟩, d4, hd4, rfl⟩
theorem F_noparts_eq [k : DOk os n a] {b : Nat} (hd : d.ok (b + 1)) : Tells F__law_no_parts [.obj n] (Dr os n a d) fun x os' => isBelow 5 x = false ∧ Dn os n a b os' := by
  refine Tells.run ?_
  unfold b__law_no_parts
  walk_at "wd"
  simp only [gNeg]
  walk_at "wd"
  have e : gPow (Dr os n a d) (.d (.int 10)) (.d (.int 8)) = some (.d (.int 100000000)) := gPow_i (by decide) (by decide) (by decide)
  simp only [e]
  walk_at "wd"
  refine post_t (F_pick_eq (b := b) hd (by simp) (by simp)) ?_
  rintro x os' ⟨hx, d2, hd2, rfl⟩
  walk_at "wd"
  refine ⟨?_, d2, hd2, rfl⟩
  simp only [List.mem_cons, List.not_mem_nil, or_false] at hx
  rcases hx with rfl | rfl | rfl | rfl | rfl | rfl | rfl | rfl <;> simp [isBelow]
end
section
/-! ### parts of things -/
theorem wSs_all : ∀ xs : List PyData, wSs xs = xs.all wS
  | [] => rfl
  | x :: xs => by rw [wSs, wSs_all xs, List.all_cons]
theorem depthAll_le {d : Nat} : ∀ {xs : List PyData}, PyData.depthAll xs ≤ d ↔ ∀ x ∈ xs, x.depth ≤ d
  | [] => by simp [PyData.depthAll]
  | x :: xs => by
    rw [PyData.depthAll, Nat.max_le, depthAll_le (xs := xs)]
    simp
theorem szs_take (i : Nat) : ∀ xs : List PyData, szs (xs.take i) ≤ szs xs := by
  induction i with
  | zero => intro xs; simp [szs]
  | succ i ih =>
    intro xs
    cases xs with
    | nil => simp
    | cons x xs => rw [List.take_succ_cons, szs, szs]; have := ih xs; omega
theorem szs_drop (i : Nat) : ∀ xs : List PyData, szs (xs.drop i) ≤ szs xs := by
  induction i with
  | zero => intro xs; simp
  | succ i ih =>
    intro xs
    cases xs with
    | nil => simp
    | cons x xs => rw [List.drop_succ_cons, szs]; have := ih xs; omega
theorem szs_rev : ∀ xs : List PyData, szs xs.reverse = szs xs
  | [] => rfl
  | x :: xs => by rw [List.reverse_cons, szs_append, szs_rev xs, szs, szs, szs]; omega
theorem szs_cut {lo hi : Option Int} {xs : List PyData} : szs (cutL xs lo hi) ≤ szs xs := by
  unfold cutL
  exact Nat.le_trans (szs_take _ _) (szs_drop _ _)
theorem cut_sub {lo hi : Option Int} {xs : List PyData} {x : PyData} (h : x ∈ cutL xs lo hi) : x ∈ xs := by
  unfold cutL at h
  exact List.mem_of_mem_drop (List.mem_of_mem_take h)
theorem cut_len {lo hi : Option Int} {xs : List PyData} : (cutL xs lo hi).length ≤ xs.length := by
  unfold cutL
  rw [List.length_take, List.length_drop]
  omega
theorem gSl_t {os : List Ob} {lo hi : Option Int} {xs : List PyData} : gSl os lo hi (.d (.tuple xs)) = some (.d (.tuple (cutL xs lo hi))) := rfl
theorem gAdd_tt {os : List Ob} {xs ys : List PyData} (h : xs.length + ys.length ≤ big) : gAdd os (.d (.tuple xs)) (.d (.tuple ys)) = some (.d (.tuple (xs ++ ys))) := if_pos h
/-- what a path leads to -/
def at_ : PyData → List Nat → Option PyData
  | x, [] => some x
  | .tuple xs, k :: ks => match xs[k]? with
    | some y => at_ y ks
    | none => none
  | _, _ => none
theorem at_depth : ∀ (ks : List Nat) (x y : PyData), at_ x ks = some y → ks.length + y.depth ≤ x.depth
  | [], x, y, h => by cases h; simp
  | k :: ks, x, y, h => by
    cases x with
    | tuple xs =>
      unfold at_ at h
      cases q : xs[k]? with
      | none => rw [q] at h; cases h
      | some z =>
        rw [q] at h
        have h1 := at_depth ks z y h
        have h2 := depthAll_le.mp (Nat.le_refl (PyData.depthAll xs)) z (List.mem_of_getElem? q)
        rw [PyData.depth, List.length_cons]
        omega
    | _ => cases h
theorem at_snoc : ∀ (ks : List Nat) (x : PyData) (xs : List PyData) (k : Nat) (y : PyData), at_ x ks = some (.tuple xs) → xs[k]? = some y → at_ x (ks ++ [k]) = some y
  | [], x, xs, k, y, h, e => by
    cases h
    show (match xs[k]? with
      | some y => at_ y []
      | none => none) = _
    rw [e]
    cases y <;> rfl
  | j :: ks, x, xs, k, y, h, e => by
    cases x with
    | tuple zs =>
      unfold at_ at h
      rw [List.cons_append]
      unfold at_
      cases q : zs[j]? with
      | none => rw [q] at h; cases h
      | some z =>
        rw [q] at h
        exact at_snoc ks z xs k y h e
    | _ => cases h
def pth (ks : List Nat) : PyData := .tuple (ks.map fun (k : Nat) => .int (k : Int))
theorem pth_nil : pth [] = .tuple [] := rfl
theorem atI_nat {xs : List PyData} {k : Nat} : atI xs (k : Int) = xs[k]? := by
  unfold atI ixN
  rw [if_pos (by omega)]
  by_cases h : k < xs.length
  · rw [if_pos (by omega), Option.bind_some, Int.toNat_natCast]
  · rw [if_neg (by omega), Option.bind_none, List.getElem?_eq_none (by omega)]
variable {os : List Ob}
theorem F_led_eq {ks : List Nat} {x y : PyData} (h : at_ x ks = some y) : F__law_led [.d x, .d (pth ks)] os = some (.ok (.d y) os []) := by
  refine run_of ?_
  unfold b__law_led pth
  walk_at "wd"
  refine wp_forI (fun ws s => ∃ (ls : List Nat) (z : PyData) (h2 : Option W), ws = (ls.map fun (k : Nat) => PyData.int (k : Int)).map .d ∧ at_ z ls = some y ∧ s = ⟨[some (.d z), some (.d (.tuple (ks.map fun (k : Nat) => .int (k : Int)))), h2], os, []⟩) ?_ ?_ ?_
  · exact ⟨ks, x, none, rfl, h, rfl⟩
  · rintro w ws s ⟨ls, z, h2, hw, hz, rfl⟩
    cases ls with
    | nil => cases hw
    | cons l ls =>
      obtain ⟨rfl, rfl⟩ := List.cons.inj hw
      cases z with
      | tuple zs =>
        unfold at_ at hz
        cases q : zs[l]? with
        | none => rw [q] at hz; cases hz
        | some u =>
          rw [q] at hz
          walk_at "wd"
          simp only [atI_nat, q]
          walk_at "wd"
          exact ⟨ls, u, _, rfl, hz, rfl⟩
      | _ => cases hz
  · rintro s ⟨ls, z, h2, hw, hz, rfl⟩
    cases ls with
    | nil =>
      cases hz
      walk_at "wd"
    | cons l ls => cases hw
/-- a part exchanged -/
def swp : PyData → List Nat → PyData → PyData
  | _, [], y => y
  | .tuple xs, k :: ks, y => match xs[k]? with
    | some z => .tuple (xs.take k ++ swp z ks y :: xs.drop (k + 1))
    | none => .tuple xs
  | x, _, _ => x
end
section
variable {os : List Ob}
theorem cut_take {xs : List PyData} {k : Nat} : cutL xs none (some (k : Int)) = xs.take k := by
  unfold cutL
  rw [HT.sIx_nat, HT.sIx_none]
  simp
  try (rw [List.take_eq_take_iff]; omega)
theorem cutL_1 {a : PyData} {r : List PyData} : cutL (a :: r) (some 1) none = r := by
  unfold cutL HT.sIx
  simp
theorem cut_drop {xs : List PyData} {k : Nat} : cutL xs (some (k : Int)) none = xs.drop k := by
  unfold cutL
  rw [HT.sIx_nat, HT.sIx_none]
  by_cases h : k ≤ xs.length
  · rw [Nat.min_eq_left h]
    rw [List.take_of_length_le (by rw [List.length_drop]; omega)]
  · rw [Nat.min_eq_right (by omega)]
    simp [List.drop_of_length_le (show xs.length ≤ k by omega)]
theorem F_swap_eq {y : PyData} : ∀ (n : Nat) (ks : List Nat) (x z : PyData), at_ x ks = some z → ks.length < n → sz x ≤ big → F__law_swapped n [.d x, .d (pth ks), .d y] os = some (.ok (.d (swp x ks y)) os [])
  | 0, _, _, _, _, h, _ => absurd h (Nat.not_lt_zero _)
  | n + 1, ks, x, z, h, hn, hz => by
    show runF _ (b__law_swapped (F__law_swapped n)) _ _ = _
    refine run_of ?_
    unfold b__law_swapped pth
    cases ks with
    | nil =>
      walk_at "wd"
      simp only [isEmp_tt]
      walk_at "wd"
      simp only [List.isEmpty_nil]
      walk_at "wd"
      cases x <;> rfl
    | cons k ks =>
      cases x with
      | tuple xs =>
        have h0 := h
        unfold at_ at h
        cases q : xs[k]? with
        | none => rw [q] at h; cases h
        | some u =>
          rw [q] at h
          have hk := (List.getElem?_eq_some_iff.mp q).1
          have hl := szs_len xs
          simp only [sz] at hz
          have hu : sz u ≤ szs xs := by
            have e : xs = xs.take k ++ u :: xs.drop (k + 1) := by
              rw [← (List.getElem?_eq_some_iff.mp q).2, ← List.drop_eq_getElem_cons hk, List.take_append_drop]
            rw [e, szs_append, szs]
            omega
          have ih := F_swap_eq (y := y) n ks u z h (by simpa using hn) (by omega)
          unfold pth at ih
          walk_at "wd"
          simp only [isEmp_tt]
          walk_at "wd"
          simp only [List.isEmpty_cons]
          walk_at "wd"
          simp only [gSl_t, cut_take, cutL_1]
          walk_at "wd"
          simp only [atI_nat, q]
          walk_at "wd"
          rw [ih]
          walk_at "wd"
          rw [gAdd_tt (by simp; omega)]
          walk_at "wd"
          have e1 : (k : Int) + 1 = ((k + 1 : Nat) : Int) := by omega
          simp only [e1, gSl_t, cut_drop]
          walk_at "wd"
          rw [gAdd_tt (by simp; omega)]
          walk_at "wd"
          simp only [swp, q]
          simp
      | _ => cases h
theorem swp_ok : ∀ (ks : List Nat) (x z y : PyData), at_ x ks = some z → wS x = true → wS y = true → wS (swp x ks y) = true ∧ sz (swp x ks y) ≤ sz x + sz y ∧ (swp x ks y).depth ≤ max x.depth (ks.length + y.depth)
  | [], x, z, y, _, _, hy => by
    have : swp x [] y = y := by cases x <;> rfl
    rw [this]
    exact ⟨hy, by omega, by simp; omega⟩
  | k :: ks, x, z, y, h, hx, hy => by
    cases x with
    | tuple xs =>
      unfold at_ at h
      cases q : xs[k]? with
      | none => rw [q] at h; cases h
      | some u =>
        rw [q] at h
        have hk := (List.getElem?_eq_some_iff.mp q).1
        have e : xs = xs.take k ++ u :: xs.drop (k + 1) := by
          rw [← (List.getElem?_eq_some_iff.mp q).2, ← List.drop_eq_getElem_cons hk, List.take_append_drop]
        rw [wS, wSs_all] at hx
        obtain ⟨h1, h2, h3⟩ := swp_ok ks u z y h (List.all_eq_true.mp hx u (List.mem_of_getElem? q)) hy
        simp only [swp, q]
        refine ⟨?_, ?_, ?_⟩
        · rw [wS, wSs_all]
          refine List.all_eq_true.mpr fun v hv => ?_
          rcases List.mem_append.mp hv with hv | hv
          · exact List.all_eq_true.mp hx v (List.mem_of_mem_take hv)
          · rcases List.mem_cons.mp hv with rfl | hv
            · exact h1
            · exact List.all_eq_true.mp hx v (List.mem_of_mem_drop hv)
        · have e2 : szs xs = szs (xs.take k) + (sz u + szs (xs.drop (k + 1))) := by
            conv => lhs; rw [e]
            rw [szs_append, szs]
          rw [sz, szs_append, szs, sz, e2]
          omega
        · have hd := depthAll_le.mp (Nat.le_refl (PyData.depthAll xs))
          rw [PyData.depth, PyData.depth]
          have : PyData.depthAll (xs.take k ++ swp u ks y :: xs.drop (k + 1)) ≤ max (PyData.depthAll xs) (ks.length + y.depth) := by
            refine depthAll_le.mpr fun v hv => ?_
            rcases List.mem_append.mp hv with hv | hv
            · have := hd v (List.mem_of_mem_take hv); omega
            · rcases List.mem_cons.mp hv with rfl | hv
              · have := hd u (List.mem_of_getElem? q); omega
              · have := hd v (List.mem_of_mem_drop hv); omega
          simp only [List.length_cons]
          omega
    | _ => cases h
end
section
variable {os : List Ob}
/-- one item of the line -/
def itm (q : List Nat × PyData) : PyData := .tuple [pth q.1, q.2]
/-- what is left to look at -/
def left (l : List (List Nat × PyData)) : Nat := (l.map fun q => sz q.2 - 1).sum
theorem left_cons {q : List Nat × PyData} {l : List (List Nat × PyData)} : left (q :: l) = (sz q.2 - 1) + left l := by
  unfold left
  rw [List.map_cons, List.sum_cons]
theorem left_append {l m : List (List Nat × PyData)} : left (l ++ m) = left l + left m := by
  unfold left
  rw [List.map_append, List.sum_append]
/-- the parts of a tuple, by their paths -/
def kids (ks : List Nat) (n : Nat) : List PyData → List (List Nat × PyData)
  | [] => []
  | x :: xs => (ks ++ [n], x) :: kids ks (n + 1) xs
theorem kids_len (ks : List Nat) : ∀ (xs : List PyData) (n : Nat), (kids ks n xs).length = xs.length
  | [], _ => rfl
  | x :: xs, n => by rw [kids, List.length_cons, kids_len ks xs, List.length_cons]
theorem kids_left (ks : List Nat) : ∀ (xs : List PyData) (n : Nat), left (kids ks n xs) + xs.length = szs xs
  | [], _ => by simp [kids, left, szs]
  | x :: xs, n => by
    rw [kids, left_cons, szs, List.length_cons]
    have := kids_left ks xs (n + 1)
    have := sz_pos x
    dsimp only
    omega
theorem kids_at {x : PyData} {ks : List Nat} {ys : List PyData} (h : at_ x ks = some (.tuple ys)) : ∀ (xs : List PyData) (n : Nat), (∀ i, xs[i]? = ys[n + i]?) → ∀ q ∈ kids ks n xs, at_ x q.1 = some q.2
  | [], _, _, q, hq => by cases hq
  | z :: xs, n, hi, q, hq => by
    rw [kids] at hq
    rcases List.mem_cons.mp hq with rfl | hq
    · refine at_snoc ks x ys n z h ?_
      have := hi 0
      simpa using this.symm
    · refine kids_at h xs (n + 1) (fun i => ?_) q hq
      have := hi (i + 1)
      rw [List.getElem?_cons_succ] at this
      rw [this]
      congr 1
      omega
theorem kids_items (ks : List Nat) : ∀ (xs : List PyData) (n : Nat), (pairsE n xs).flatMap (fun x => match x with | .tuple [.int k, y] => [itm (ks ++ [k.toNat], y)] | _ => []) = (kids ks n xs).map itm
  | [], _ => rfl
  | x :: xs, n => by
    rw [pairsE, List.flatMap_cons, kids_items ks xs (n + 1), kids, List.map_cons]
    simp
theorem pairs_shape : ∀ (xs : List PyData) (n : Nat), ∀ q ∈ pairsE n xs, ∃ (k : Nat) (y : PyData), q = .tuple [.int (k : Int), y] ∧ n ≤ k ∧ k < n + xs.length
  | [], _, q, h => by cases h
  | x :: xs, n, q, h => by
    rw [pairsE] at h
    rcases List.mem_cons.mp h with rfl | h
    · exact ⟨n, x, rfl, by omega, by simp⟩
    · obtain ⟨k, y, e, h1, h2⟩ := pairs_shape xs (n + 1) q h
      exact ⟨k, y, e, by omega, by simp; omega⟩
theorem pth_snoc {os : List Ob} {ks : List Nat} {k : Nat} (h : ks.length < 1000) : gAdd os (.d (pth ks)) (.d (.tuple [.int (k : Int)])) = some (.d (pth (ks ++ [k]))) := by
  unfold pth
  rw [gAdd_tt (by simp [big]; omega)]
  simp
theorem listO_of {os : List Ob} {n : Nat} {us : List W} (h : os[n]? = some (.lst us)) : gLen os [.obj n] = some (.d (.int us.length)) := by
  unfold gLen
  simp [h, itemsO]
theorem gIxA_o {os : List Ob} {n : Nat} {us : List W} {i : Nat} {w : W} (h : os[n]? = some (.lst us)) (hi : us[i]? = some w) : gIxA os (.obj n) (.d (.int (i : Int))) = some w := by
  have e : gDix os (.obj n) (.d (.int (i : Int))) = none := by
    show getO os[n]? (.int (i : Int)) = none
    rw [h]
    rfl
  have hl := (List.getElem?_eq_some_iff.mp hi).1
  unfold gIxA
  rw [e]
  show (itemsO os[n]?).bind (fun ws => atI ws (i : Int)) = some w
  rw [h]
  show atI us (i : Int) = some w
  unfold atI ixN
  rw [if_pos (by omega), if_pos (by omega), Option.bind_some, Int.toNat_natCast, hi]
theorem frzO_of {os : List Ob} {n : Nat} {xs : List PyData} (h : os[n]? = some (.lst (xs.map .d))) : frzO os[n]? = some xs := by
  rw [h]
  exact datas_map
set_option maxHeartbeats 8000000 in
theorem F_paths_eq {x : PyData} (hx : sz x ≤ 100000) (hd : x.depth ≤ 900) : ∃ ps : List (List Nat), F__law_paths [.d x] os = some (.ok (.d (.list (ps.map pth))) os []) ∧ ps ≠ [] ∧ ps.length ≤ 100000 ∧ ∀ ks ∈ ps, ∃ y, at_ x ks = some y := by
  have goal : Tells F__law_paths [.d x] os fun r os' => os' = os ∧ ∃ ps : List (List Nat), r = .list (ps.map pth) ∧ ps ≠ [] ∧ ps.length ≤ 100000 ∧ ∀ ks ∈ ps, ∃ y, at_ x ks = some y := by
    refine Tells.run ?_
    unfold b__law_paths
    walk_at "wd"
    refine ⟨by decide, ?_⟩
    refine wp_while (fun n s => ∃ (done todo : List (List Nat × PyData)) (h3 h4 : Option W), s = ⟨[some (.d x), some (.obj os.length), some (.d (.int (done.length : Nat))), h3, h4, none, none], os ++ [.lst (((done ++ todo).map itm).map .d)], []⟩ ∧ n = left todo + todo.length ∧ done.length + todo.length + left todo ≤ 100000 ∧ done ++ todo ≠ [] ∧ ∀ q ∈ done ++ todo, at_ x q.1 = some q.2) (n := sz x) ⟨[], [([], x)], none, none, rfl, by simp [left]; have := sz_pos x; omega, by simp [left]; omega, by simp, fun q hq => by simp at hq; subst hq; rfl⟩ ?_
    rintro n s ⟨done, todo, h3, h4, rfl, hn, hl, hne, hat⟩
    walk_at "wd"
    rw [listO_of (us := ((done ++ todo).map itm).map .d) (by simp)]
    walk_at "wd"
    refine ⟨fun h => ?_, fun h => ?_⟩
    · cases todo with
      | nil => simp at h
      | cons q todo =>
        have hq := hat q (by simp)
        have hdep := at_depth _ _ _ hq
        have eq : ((((done ++ q :: todo).map itm).map W.d))[done.length]? = some (.d (itm q)) := by simp
        rw [gIxA_o (by simp) eq]
        walk_at "wd"
        have ei : itm q = .tuple [pth q.1, q.2] := rfl
        simp only [ei]
        walk_at "wd"
        have step : (done.length : Int) + 1 = (((done ++ [q]).length : Nat) : Int) := by simp
        refine ⟨fun ht => ?_, fun ht => ?_⟩
        · obtain ⟨xs, exs⟩ : ∃ xs, q.2 = .tuple xs := by
            cases e : q.2 with
            | tuple xs => exact ⟨xs, rfl⟩
            | _ => rw [e] at ht; exact absurd ht (by simp only [tyD_none, tyD_bool, tyD_int, tyD_str, tyD_list, tyD_dict]; decide)
          refine ⟨isLst_of (us := ((done ++ q :: todo).map itm).map .d) (by simp), ?_⟩
          simp only [exs]
          have hsz : sz q.2 = 1 + szs xs := by rw [exs, sz]
          have hkl := kids_left q.1 xs 0
          have hln := szs_len xs
          rw [left_cons, List.length_cons] at hl hn
          refine wp_comp_pure (fun x => match x with | .tuple [.int k, y] => [itm (q.1 ++ [k.toNat], y)] | _ => []) (pairsE 0 xs) ?_
          walk_at "wd"
          simp only [enumTF]
          walk_at "wd"
          rw [kids_items]
          refine ⟨fun y hy => ?_, by rw [List.length_map, kids_len]; unfold big; omega, ?_⟩
          · obtain ⟨k, z, rfl, _, _⟩ := pairs_shape xs 0 y hy
            simp only [tgS, wipeS]
            walk_at "wd"
            simp only [setAll]
            walk_at "wd"
            rw [pth_snoc (by omega)]
            walk_at "wd"
            refine ⟨_, rfl, ?_⟩
            simp [itm]
          · rw [gExt_of (us := ((done ++ q :: todo).map itm).map .d) (xs := (kids q.1 0 xs).map itm) (by simp) rfl (by simp [kids_len, big]; omega)]
            walk_at "wd"
            refine ⟨left (todo ++ kids q.1 0 xs) + (todo ++ kids q.1 0 xs).length, ?_, done ++ [q], todo ++ kids q.1 0 xs, some (.d (pth q.1)), some (.d (.tuple xs)), ?_, rfl, ?_, ?_, ?_⟩
            · rw [hn, left_append, List.length_append, kids_len]; omega
            · simp
            · rw [left_append, List.length_append, List.length_append, kids_len, List.length_singleton]
              omega
            · simp
            · intro r hr
              simp only [List.mem_append, List.mem_singleton] at hr
              rcases hr with (hr | rfl) | (hr | hr)
              · exact hat r (by simp [hr])
              · exact hq
              · exact hat r (by simp [hr])
              · exact kids_at (by rw [← exs]; exact hq) xs 0 (fun i => by rw [Nat.zero_add]) r hr
        · refine ⟨left todo + todo.length, ?_, done ++ [q], todo, some (.d (pth q.1)), some (.d q.2), ?_, rfl, ?_, ?_, ?_⟩
          · rw [hn, left_cons, List.length_cons]; omega
          · simp
          · rw [left_cons, List.length_cons] at hl
            simp
            omega
          · simp
          · simpa using hat
    · have ht : todo = [] := by
        cases todo with
        | nil => rfl
        | cons q todo => simp at h; omega
      subst ht
      rw [List.append_nil] at hne hat
      refine wp_comp_pure (fun x => match x with | .tuple [p, y] => [p] | _ => []) (done.map itm) ?_
      walk_at "wd"
      rw [frzO_of (xs := done.map itm) (by simp)]
      walk_at "wd"
      have e : ∀ l : List (List Nat × PyData), (l.map itm).flatMap (fun x => match x with | .tuple [p, y] => [p] | _ => []) = (l.map (·.1)).map pth := by
        intro l
        induction l with
        | nil => rfl
        | cons q l ih => rw [List.map_cons, List.flatMap_cons, ih] <;> rfl
      rw [e]
      refine ⟨fun y hy => ?_, by simp [big] at hl ⊢; omega, ?_⟩
      · obtain ⟨q, _, rfl⟩ := List.mem_map.mp hy
        have ei : itm q = .tuple [pth q.1, q.2] := rfl
        simp only [ei, tgS, wipeS]
        walk_at "wd"
        simp only [setAll]
        walk_at "wd"
        exact ⟨_, rfl, rfl⟩
      · refine ⟨done.map (·.1), rfl, by simpa using hne, by simp at hl ⊢; omega, fun ks hks => ?_⟩
        obtain ⟨q, hq, rfl⟩ := List.mem_map.mp hks
        exact ⟨_, hat q hq⟩
  obtain ⟨r, e, p⟩ := goal
  cases r with
  | ok w os' es => cases w with
    | d y =>
      obtain ⟨rfl, rfl, ps, rfl, h1, h2, h3⟩ := p
      exact ⟨ps, e, h1, h2, h3⟩
    | _ => exact p.elim
  | _ => exact p.elim
end
section
variable {os : List Ob} {n a : Nat} {d : DS}
mutual
/-- what stands in trees -/
def tS : PyData → Bool
  | .str z => PyData.strOk z && decide (z.length ≤ 20)
  | .int i => decide (0 ≤ i) && decide (i ≤ 20)
  | .tuple xs => tSs xs
  | _ => false
def tSs : List PyData → Bool
  | [] => true
  | x :: xs => tS x && tSs xs
end
theorem tSs_all : ∀ xs : List PyData, tSs xs = xs.all tS
  | [] => rfl
  | x :: xs => by rw [tSs, tSs_all xs, List.all_cons]
mutual
theorem tS_wS : ∀ x : PyData, tS x = true → wS x = true
  | .str z, h => by rw [tS] at h; rw [wS]; exact (Bool.and_eq_true_iff.mp h).1
  | .tuple xs, h => by rw [tS] at h; rw [wS]; exact tSs_wS xs h
  | .int i, _ => by simp [wS]
  | .none, h => by simp [tS] at h
  | .bool b, h => by simp [tS] at h
  | .list b, h => by simp [tS] at h
  | .dict b, h => by simp [tS] at h
theorem tSs_wS : ∀ xs : List PyData, tSs xs = true → wSs xs = true
  | [], _ => by rw [wSs]
  | x :: xs, h => by
    rw [tSs] at h
    rw [wSs]
    obtain ⟨h1, h2⟩ := Bool.and_eq_true_iff.mp h
    rw [tS_wS x h1, tSs_wS xs h2]
    rfl
end
theorem tS_at : ∀ (ks : List Nat) (x y : PyData), at_ x ks = some y → tS x = true → tS y = true
  | [], x, y, h, hx => by cases h; exact hx
  | k :: ks, x, y, h, hx => by
    cases x with
    | tuple xs =>
      unfold at_ at h
      cases q : xs[k]? with
      | none => rw [q] at h; cases h
      | some z =>
        rw [q] at h
        rw [tS, tSs_all] at hx
        exact tS_at ks z y h (List.all_eq_true.mp hx z (List.mem_of_getElem? q))
    | _ => cases h
theorem sz_at : ∀ (ks : List Nat) (x y : PyData), at_ x ks = some y → sz y ≤ sz x
  | [], x, y, h => by cases h; exact Nat.le_refl _
  | k :: ks, x, y, h => by
    cases x with
    | tuple xs =>
      unfold at_ at h
      cases q : xs[k]? with
      | none => rw [q] at h; cases h
      | some z =>
        rw [q] at h
        have h1 := sz_at ks z y h
        have h2 : sz z ≤ szs xs := by
          have hk := (List.getElem?_eq_some_iff.mp q).1
          have e : xs = xs.take k ++ z :: xs.drop (k + 1) := by
            rw [← (List.getElem?_eq_some_iff.mp q).2, ← List.drop_eq_getElem_cons hk, List.take_append_drop]
          rw [e, szs_append, szs]
          omega
        rw [sz]
        omega
    | _ => cases h
theorem Tr.tS {p : Int} (hp : p ≤ 20) : ∀ t : Tr, t.ok p = true → FL.tS t.dt = true
  | .yes, _ => by decide +kernel
  | .no, _ => by decide +kernel
  | .fails w, h => by
    have h1 := strOk_nm h
    have h2 := len_nm h
    have e : (PyData.strOk "fails" && decide (("fails" : Str).length ≤ 20)) = true := by decide +kernel
    simp only [Tr.dt, FL.tS, FL.tSs, h1, e]
    simp
    omega
  | .shows i t, h => by
    have h0 := (Bool.and_eq_true_iff.mp h).1
    have h1 := Tr.tS hp t (Bool.and_eq_true_iff.mp h).2
    have e : (PyData.strOk "shows" && decide (("shows" : Str).length ≤ 20)) = true := by decide +kernel
    simp [isBelow] at h0
    simp only [Tr.dt, FL.tS, FL.tSs, h1, e]
    simp
    omega
  | .does i a b, h => by
    have h0 := (Bool.and_eq_true_iff.mp h).1
    have h := Bool.and_eq_true_iff.mp (Bool.and_eq_true_iff.mp h).2
    have h1 := Tr.tS hp a h.1
    have h2 := Tr.tS hp b h.2
    have e : (PyData.strOk "does" && decide (("does" : Str).length ≤ 20)) = true := by decide +kernel
    simp [isBelow] at h0
    simp only [Tr.dt, FL.tS, FL.tSs, h1, h2, e]
    simp
    omega
/-- what an odd part may be -/
def OddOk (part y : PyData) : Prop := wS y = true ∧ sz y ≤ 3 * sz part + 40 ∧ y.depth ≤ part.depth + 1
def oddB (y : PyData) : Bool := wS y && (decide (sz y ≤ 40) && decide (y.depth ≤ 1))
theorem oddB_ok {part y : PyData} (h : oddB y = true) : OddOk part y := by
  obtain ⟨h1, h⟩ := Bool.and_eq_true_iff.mp h
  obtain ⟨h2, h3⟩ := Bool.and_eq_true_iff.mp h
  have h2 := of_decide_eq_true h2
  have h3 := of_decide_eq_true h3
  exact ⟨h1, by omega, by omega⟩
theorem odd_tup {xs ys : List PyData} (hw : wSs xs = true) (hs : ∀ y ∈ ys, y ∈ xs) (hz : szs ys ≤ 3 * szs xs) : OddOk (.tuple xs) (.tuple ys) := by
  refine ⟨?_, ?_, ?_⟩
  · rw [wSs_all] at hw
    rw [wS, wSs_all]
    exact List.all_eq_true.mpr fun y hy => List.all_eq_true.mp hw y (hs y hy)
  · rw [sz, sz]; omega
  · rw [PyData.depth, PyData.depth]
    have : PyData.depthAll ys ≤ PyData.depthAll xs := depthAll_le.mpr fun y hy => depthAll_le.mp (Nat.le_refl _) y (hs y hy)
    omega
def lastL : List PyData := [.none, .int 5, .bool true, .str "zzzzzzzz", .tuple [], .list [], .dict [], .tuple [.str "number", .int 1], .tuple [.str "ask"], .tuple [.str "name", .str "zzzzzzzz"], .tuple [.str "part", .int 0], .tuple [.str "rest"], .tuple [.none], .int (-1)]
theorem last_ok : ∀ y ∈ lastL, oddB y = true := by decide +kernel
def strL : List PyData := [.str "w", .str "err", .str "", .str "Abc", .str "a1", .str "let", .str "abcdefghi", .str "yes", .str "name", .str "pair"]
theorem strL_ok : ∀ y ∈ strL, oddB y = true := by decide +kernel
theorem int_ok20 : ∀ k : Fin 21, oddB (.str (toString ((k.val : Nat) : Int))) = true := by decide +kernel
theorem int_oddB (i : Int) : oddB (.int i) = true := by simp [oddB, wS, sz, PyData.depth]
theorem bool_oddB (i : Bool) : oddB (.bool i) = true := by simp [oddB, wS, sz, PyData.depth]
theorem gRev_t {os : List Ob} {xs : List PyData} : gRev os (.d (.tuple xs)) = some (.d (.tuple xs.reverse)) := rfl
theorem gListA_t {os : List Ob} {xs : List PyData} : gListA os [.d (.tuple xs)] = some (.d (.list xs)) := rfl
theorem gAdd_ss {os : List Ob} {a b : Str} (h : a.length + b.length ≤ big) : gAdd os (.d (.str a)) (.d (.str b)) = some (.d (.str (a ++ b))) := if_pos h
theorem gNeg_i {os : List Ob} {i : Int} : gNeg os (.d (.int i)) = some (.d (.int (-i))) := rfl
end
section
variable {os : List Ob} {n a : Nat} {d : DS}
theorem gGt_0 {os : List Ob} {i : Int} : gGt os (.d (.int i)) (.d (.int 0)) = some (.d (.bool (decide (0 < i)))) := rfl
/-- a draw that ends the def -/
theorem post_end [k : DOk os n a] {b : Nat} {d e : DS} {xs : List PyData} {sl : List (Option W)} {R : PyData → Prop} (he : e.ok (b + 1)) (h0 : xs ≠ []) (h1 : xs.length < 1073741824) (hx : ∀ y ∈ xs, R y) :
    post (F__law_pick [.obj n, .d (.list xs)] (Dr os n a e)) ⟨sl, Dr os n a e, []⟩ (fun w s1 => Ret (fun y os' => R y ∧ Dn os n a b os') (FL.fin (Dr os n a d).length w s1)) fun _ _ => False := by
  refine post_t (F_pick_eq (b := b) he h0 h1) ?_
  rintro y os' ⟨hy, d2, hd2, rfl⟩
  walk_at "wd"
  exact ⟨hx y hy, d2, hd2, rfl⟩
set_option maxHeartbeats 8000000 in
theorem F_odd_eq [k : DOk os n a] {b : Nat} (hd : d.ok (b + 4)) {part : PyData} (ht : tS part = true) (hz : sz part ≤ 100000) : Tells F__law_odd [.obj n, .d part, .d (.list [.str "w", .str "err"])] (Dr os n a d) fun y os' => OddOk part y ∧ Dn os n a b os' := by
  refine Tells.run ?_
  unfold b__law_odd
  have hw := tS_wS part ht
  have last : ∀ (e : DS) (sl : List (Option W)), e.ok (b + 1) → post (F__law_pick [.obj n, .d (.list [.none, .int 5, .bool true, .str "zzzzzzzz", .tuple [], .list [], .dict [], .tuple [.str "number", .int 1], .tuple [.str "ask"], .tuple [.str "name", .str "zzzzzzzz"], .tuple [.str "part", .int 0], .tuple [.str "rest"], .tuple [.none], .int (-1)])] (Dr os n a e)) ⟨sl, Dr os n a e, []⟩ (fun w s1 => Ret (fun y os' => OddOk part y ∧ Dn os n a b os') (FL.fin (Dr os n a d).length w s1)) fun _ _ => False := fun e sl he =>
    post_end he (by simp) (by simp) fun y hy => oddB_ok (last_ok y hy)
  cases part with
  | tuple xs =>
    rw [wS] at hw
    simp only [sz] at hz
    have hl := szs_len xs
    walk_at "wd"
    refine post_t (F_take_eq (b := b + 3) hd (m := 3) (by decide) (by decide)) ?_
    rintro x os' ⟨⟨i, rfl, i0, i1⟩, d1, hd1, rfl⟩
    walk_at "wd"
    simp only [gNeg_i]
    walk_at "wd"
    refine ⟨fun h => ?_, fun h => last d1 _ (hd1.le (by omega))⟩
    refine post_t (F_take_eq (b := b + 2) hd1 (m := (xs.length : Int) + 1) (by omega) (by omega)) ?_
    rintro x os' ⟨⟨j, rfl, j0, j1⟩, d2, hd2, rfl⟩
    walk_at "wd"
    simp only [gSl_t, gRev_t, gListA_t]
    walk_at "wd"
    have c1 := cut_len (lo := none) (hi := some j) (xs := xs)
    have c2 := cut_len (lo := some (j + 1)) (hi := none) (xs := xs)
    have c3 := cut_len (lo := some j) (hi := some (j + 1)) (xs := xs)
    have c4 := cut_len (lo := some j) (hi := none) (xs := xs)
    rw [gAdd_tt (by unfold big; omega)]
    walk_at "wd"
    rw [gAdd_tt (by unfold big; omega)]
    walk_at "wd"
    rw [gAdd_tt (by simp [big]; omega)]
    walk_at "wd"
    rw [gAdd_tt (by simp [big]; omega)]
    walk_at "wd"
    refine post_end (hd2.le (by omega)) (by simp) (by simp) fun y hy => ?_
    simp only [List.mem_cons, List.not_mem_nil, or_false] at hy
    have z1 := szs_cut (lo := none) (hi := some j) (xs := xs)
    have z2 := szs_cut (lo := some (j + 1)) (hi := none) (xs := xs)
    have z3 := szs_cut (lo := some j) (hi := some (j + 1)) (xs := xs)
    have z4 := szs_cut (lo := some j) (hi := none) (xs := xs)
    rcases hy with rfl | rfl | rfl | rfl | rfl | rfl
    · refine odd_tup hw (fun y hy => ?_) (by rw [szs_append]; omega)
      rcases List.mem_append.mp hy with hy | hy <;> exact cut_sub hy
    · refine odd_tup hw (fun y hy => ?_) (by rw [szs_append, szs_append]; omega)
      rcases List.mem_append.mp hy with hy | hy
      · rcases List.mem_append.mp hy with hy | hy <;> exact cut_sub hy
      · exact cut_sub hy
    · exact odd_tup hw (fun y hy => List.mem_reverse.mp hy) (by rw [szs_rev]; omega)
    · refine ⟨by simp [wS], by simp [sz] <;> omega, ?_⟩
      rw [PyData.depth, PyData.depth]
      omega
    · refine ⟨?_, ?_, ?_⟩
      · rw [wSs_all] at hw
        rw [wS, wSs_all, List.all_append, hw]
        simp [wS]
      · rw [sz, szs_append, sz]
        simp [szs, sz]
        omega
      · rw [PyData.depth, PyData.depth]
        have : PyData.depthAll (xs ++ [.none]) ≤ PyData.depthAll xs := depthAll_le.mpr fun y hy => by
          rcases List.mem_append.mp hy with hy | hy
          · exact depthAll_le.mp (Nat.le_refl _) y hy
          · rw [List.mem_singleton.mp hy]
            simp [PyData.depth]
        omega
    · exact oddB_ok (by decide +kernel)
  | str z =>
    simp [tS] at ht
    walk_at "wd"
    refine post_t (F_take_eq (b := b + 3) hd (m := 3) (by decide) (by decide)) ?_
    rintro x os' ⟨⟨i, rfl, i0, i1⟩, d1, hd1, rfl⟩
    walk_at "wd"
    simp only [gNeg_i]
    walk_at "wd"
    refine ⟨fun h => ?_, fun h => last d1 _ (hd1.le (by omega))⟩
    have hx1 : ("x" : Str).length = 1 := by decide +kernel
    rw [gAdd_ss (by rw [hx1]; unfold big; omega)]
    walk_at "wd"
    rw [gAdd_ll (by simp [big])]
    walk_at "wd"
    refine post_end (hd1.le (by omega)) (by simp) (by simp) fun y hy => ?_
    simp only [List.mem_cons, List.not_mem_nil, or_false] at hy
    have lit : ∀ y ∈ strL, OddOk (.str z) y := fun y hy => oddB_ok (strL_ok y hy)
    have hzx : (z ++ "x").length = z.length + 1 := by
      show (z.cps ++ ("x" : Str).cps).size = z.cps.size + 1
      rw [Array.size_append] <;> rfl
    rcases hy with rfl | rfl | rfl | rfl | rfl | rfl | rfl | rfl | rfl | rfl | rfl | rfl
    · exact lit _ (by simp [strL])
    · exact lit _ (by simp [strL])
    · exact lit _ (by simp [strL])
    · exact lit _ (by simp [strL])
    · exact lit _ (by simp [strL])
    · exact lit _ (by simp [strL])
    · exact lit _ (by simp [strL])
    · refine ⟨?_, by simp [sz, hzx]; omega, by simp [PyData.depth]⟩
      rw [wS]
      have h1 := ht.1
      have h2 : PyData.strOk "x" = true := by decide +kernel
      unfold PyData.strOk at h1 h2 ⊢
      show (z.cps ++ ("x" : Str).cps).all _ = true
      rw [Array.all_append, h1, h2]
      rfl
    · refine ⟨by simp [wS, wSs, ht.1], by simp [sz, szs]; omega, by simp [PyData.depth, PyData.depthAll]⟩
    · exact lit _ (by simp [strL])
    · exact lit _ (by simp [strL])
    · exact lit _ (by simp [strL])
  | int j =>
    simp [tS] at ht
    walk_at "wd"
    refine post_t (F_take_eq (b := b + 3) hd (m := 3) (by decide) (by decide)) ?_
    rintro x os' ⟨⟨i, rfl, i0, i1⟩, d1, hd1, rfl⟩
    walk_at "wd"
    simp only [gNeg_i]
    walk_at "wd"
    refine ⟨fun h => ?_, fun h => last d1 _ (hd1.le (by omega))⟩
    have es : gStr (Dr os n a d1) [.d (.int j)] = some (.d (.str (toString j))) := if_pos (by
      have h1 : j.natAbs ≤ 20 := by omega
      exact Nat.lt_of_le_of_lt h1 (by decide +kernel))
    simp only [es]
    walk_at "wd"
    refine post_end (hd1.le (by omega)) (by simp) (by simp) fun y hy => ?_
    simp only [List.mem_cons, List.not_mem_nil, or_false] at hy
    rcases hy with rfl | rfl | rfl | rfl | rfl | rfl | rfl | rfl
    · exact oddB_ok (int_oddB _)
    · exact oddB_ok (int_oddB _)
    · exact oddB_ok (int_oddB _)
    · exact oddB_ok (int_oddB _)
    · exact oddB_ok (int_oddB _)
    · exact oddB_ok (bool_oddB _)
    · exact oddB_ok (bool_oddB _)
    · have := int_ok20 ⟨j.toNat, by omega⟩
      dsimp only at this
      rw [Int.toNat_of_nonneg ht.1] at this
      exact oddB_ok this
  | none => simp [tS] at ht
  | bool b => simp [tS] at ht
  | list b => simp [tS] at ht
  | dict b => simp [tS] at ht
theorem F_bent_eq [k : DOk os n a] {b : Nat} (hd : d.ok (b + 5)) {x : PyData} (ht : tS x = true) (hz : sz x ≤ 100000) (hdp : x.depth ≤ 20) : Tells F__law_bent [.obj n, .d x, .d (.list [.str "w", .str "err"])] (Dr os n a d) fun y os' => (wS y = true ∧ sz y ≤ 4 * sz x + 40 ∧ y.depth ≤ x.depth + 1) ∧ Dn os n a b os' := by
  refine Tells.run ?_
  unfold b__law_bent
  obtain ⟨ps, e, h0, h1, h2⟩ := F_paths_eq (os := Dr os n a d) (x := x) hz (by omega)
  walk_at "wd"
  simp only [e]
  walk_at "wd"
  refine post_t (F_pick_eq (b := b + 4) hd (by simpa using h0) (by simp; omega)) ?_
  rintro p os' ⟨hp, d1, hd1, rfl⟩
  obtain ⟨ks, hks, rfl⟩ := List.mem_map.mp hp
  obtain ⟨z, hz2⟩ := h2 ks hks
  have hdz := at_depth ks x z hz2
  have hzz := sz_at ks x z hz2
  walk_at "wd"
  rw [F_led_eq hz2]
  walk_at "wd"
  refine post_t (F_odd_eq (b := b) hd1 (tS_at ks x z hz2 ht) (by omega)) ?_
  rintro y os' ⟨⟨o1, o2, o3⟩, d2, hd2, rfl⟩
  walk_at "wd"
  rw [F_swap_eq 30 ks x z hz2 (by omega) (by unfold big; omega)]
  walk_at "wd"
  obtain ⟨q1, q2, q3⟩ := swp_ok ks x z y hz2 (tS_wS x ht) o1
  exact ⟨⟨q1, by omega, by omega⟩, d2, hd2, rfl⟩
end
section
/-! ### what a cut becomes, and what its ends match -/
/-- the second behind the first, without what stands already -/
def dd (xs ys : List Tr) : List Tr := xs ++ ys.filter fun y => !decide (y ∈ xs)
def Tr.mt : Tr → Tr → Option (List Tr × List Tr)
  | .yes, t => some ([t], [])
  | .no, t => some ([], [t])
  | .fails w, t => if Tr.fails w = t then some ([], []) else none
  | .shows i c, .shows j t => if i = j then c.mt t else none
  | .does i c d, .does j t u => if i = j then (match c.mt t with
    | some (y, n) => (match d.mt u with
      | some (y', n') => some (dd y y', dd n n')
      | none => none)
    | none => none) else none
  | _, _ => none
theorem dd_nodup {xs ys : List Tr} (h1 : xs.Nodup) (h2 : ys.Nodup) : (dd xs ys).Nodup := by
  unfold dd
  rw [List.nodup_append]
  refine ⟨h1, h2.filter _, fun a ha b hb => ?_⟩
  have := (List.mem_filter.mp hb).2
  intro e
  subst e
  simp [ha] at this
theorem dd_mem {xs ys : List Tr} {a : Tr} : a ∈ dd xs ys ↔ a ∈ xs ∨ a ∈ ys := by
  unfold dd
  rw [List.mem_append, List.mem_filter]
  by_cases h : a ∈ xs <;> simp [h]
theorem mt_nodup : ∀ (c t : Tr) {y n : List Tr}, c.mt t = some (y, n) → y.Nodup ∧ n.Nodup
  | .yes, t, y, n, h => by cases h; simp
  | .no, t, y, n, h => by cases h; simp
  | .fails w, t, y, n, h => by
    unfold Tr.mt at h
    split at h
    · cases h; simp
    · cases h
  | .shows i c, t, y, n, h => by
    cases t with
    | shows j t =>
      unfold Tr.mt at h
      split at h
      · exact mt_nodup c t h
      · cases h
    | _ => cases h
  | .does i c d, t, y, n, h => by
    cases t with
    | does j t u =>
      unfold Tr.mt at h
      split at h
      · split at h
        · rename_i y1 n1 e1
          split at h
          · rename_i y2 n2 e2
            cases h
            obtain ⟨a1, a2⟩ := mt_nodup c t e1
            obtain ⟨b1, b2⟩ := mt_nodup d u e2
            exact ⟨dd_nodup a1 b1, dd_nodup a2 b2⟩
          · cases h
        · cases h
      · cases h
    | _ => cases h
/-- all of some trees are one, and the one that is known -/
def agree (e : Option Tr) (y : List Tr) : Prop := ∃ t, (∀ u, e = some u → u = t) ∧ ∀ u ∈ y, u = t
def upd1 (e : Option Tr) (y : List Tr) : Option Tr := match e with
  | some u => some u
  | none => y.head?
theorem upd1_some {u : Tr} {y : List Tr} : upd1 (some u) y = some u := rfl
theorem upd1_nil {e : Option Tr} : upd1 e [] = e := by cases e <;> rfl
theorem agree_nil {e : Option Tr} : agree e [] := by
  cases e with
  | none => exact ⟨.yes, fun _ h => (nomatch h), fun _ h => (nomatch h)⟩
  | some u => exact ⟨u, fun v h => by cases h; rfl, fun _ h => (nomatch h)⟩
theorem agree_one {t : Tr} : agree none [t] := ⟨t, fun _ h => (nomatch h), fun u h => List.mem_singleton.mp h⟩
theorem agree_some {u t : Tr} : agree (some u) [t] ↔ u = t := by
  constructor
  · rintro ⟨v, h1, h2⟩
    rw [h1 u rfl, h2 t List.mem_cons_self]
  · rintro rfl
    exact ⟨u, fun v h => by cases h; rfl, fun v h => List.mem_singleton.mp h⟩
theorem agree_dd {e : Option Tr} {y y' : List Tr} : agree e (dd y y') ↔ agree e y ∧ agree (upd1 e y) y' := by
  constructor
  · rintro ⟨t, h1, h2⟩
    refine ⟨⟨t, h1, fun u hu => h2 u (dd_mem.mpr (.inl hu))⟩, t, fun u hu => ?_, fun u hu => h2 u (dd_mem.mpr (.inr hu))⟩
    unfold upd1 at hu
    cases e with
    | some v => cases hu; exact h1 _ rfl
    | none =>
      cases y with
      | nil => cases hu
      | cons a y => cases hu; exact h2 _ (dd_mem.mpr (.inl List.mem_cons_self))
  · rintro ⟨⟨t, h1, h2⟩, t', h3, h4⟩
    cases e with
    | some v =>
      have e1 := h1 v rfl
      have e2 := h3 v rfl
      subst e1
      subst e2
      exact ⟨v, h1, fun u hu => (dd_mem.mp hu).elim (h2 u) (h4 u)⟩
    | none =>
      cases y with
      | nil => exact ⟨t', fun _ h => (nomatch h), fun u hu => (dd_mem.mp hu).elim (fun z => (nomatch z)) (h4 u)⟩
      | cons a y =>
        have e1 := h2 a List.mem_cons_self
        have e2 := h3 a rfl
        subst e1
        subst e2
        exact ⟨a, h1, fun u hu => (dd_mem.mp hu).elim (h2 u) (h4 u)⟩
theorem upd_dd {e : Option Tr} {y y' : List Tr} : upd1 e (dd y y') = upd1 (upd1 e y) y' := by
  cases e with
  | some v => rfl
  | none =>
    cases y with
    | nil =>
      unfold dd upd1
      cases y' <;> simp
    | cons a y => rfl
/-- what becomes, told by what matches -/
theorem bec_mt : ∀ (c t : Tr) (E : En), (∀ y n, c.mt t = some (y, n) → ((c.bec t E).1 = true ↔ agree E.1 y ∧ agree E.2 n) ∧ ((c.bec t E).1 = true → (c.bec t E).2 = (upd1 E.1 y, upd1 E.2 n))) ∧ (c.mt t = none → (c.bec t E).1 = false)
  | .yes, t, (e1, e2) => by
    refine ⟨fun y n h => ?_, fun h => by cases h⟩
    cases h
    unfold Tr.bec
    cases e1 with
    | none => exact ⟨⟨fun _ => ⟨agree_one, agree_nil⟩, fun _ => rfl⟩, fun _ => by rw [upd1_nil] <;> rfl⟩
    | some u =>
      refine ⟨⟨fun h => ⟨agree_some.mpr (by simpa using h), agree_nil⟩, fun h => by simpa using agree_some.mp h.1⟩, fun _ => by rw [upd1_nil] <;> rfl⟩
  | .no, t, (e1, e2) => by
    refine ⟨fun y n h => ?_, fun h => by cases h⟩
    cases h
    unfold Tr.bec
    cases e2 with
    | none => exact ⟨⟨fun _ => ⟨agree_nil, agree_one⟩, fun _ => rfl⟩, fun _ => by rw [upd1_nil] <;> rfl⟩
    | some u =>
      refine ⟨⟨fun h => ⟨agree_nil, agree_some.mpr (by simpa using h)⟩, fun h => by simpa using agree_some.mp h.2⟩, fun _ => by rw [upd1_nil] <;> rfl⟩
  | .fails w, t, E => by
    unfold Tr.mt Tr.bec
    by_cases h : Tr.fails w = t
    · rw [if_pos h]
      refine ⟨fun y n q => ?_, fun q => by cases q⟩
      cases q
      exact ⟨⟨fun _ => ⟨agree_nil, agree_nil⟩, fun _ => decide_eq_true h⟩, fun _ => by rw [upd1_nil, upd1_nil]⟩
    · rw [if_neg h]
      exact ⟨fun y n q => (by cases q), fun _ => decide_eq_false h⟩
  | .shows i c, t, E => by
    cases t with
    | shows j t =>
      unfold Tr.mt Tr.bec
      by_cases h : i = j
      · rw [if_pos h, if_pos h]
        exact bec_mt c t E
      · rw [if_neg h, if_neg h]
        exact ⟨fun y n q => (by cases q), fun _ => rfl⟩
    | _ => exact ⟨fun y n q => (by cases q), fun _ => rfl⟩
  | .does i c d, t, E => by
    cases t with
    | does j t u =>
      unfold Tr.mt Tr.bec
      by_cases h : i = j
      · rw [if_pos h, if_pos h]
        obtain ⟨a1, a2⟩ := bec_mt c t E
        cases e1 : c.mt t with
        | none =>
          refine ⟨fun y n q => (by cases q), fun _ => ?_⟩
          rw [if_neg (by rw [a2 e1]; decide)]
        | some p =>
          obtain ⟨y1, n1⟩ := p
          obtain ⟨b1, b2⟩ := a1 y1 n1 e1
          by_cases hb : (c.bec t E).1 = true
          · rw [if_pos hb]
            obtain ⟨c1, c2⟩ := bec_mt d u (c.bec t E).2
            have e3 := b2 hb
            rw [e3] at c1 c2 ⊢
            cases e2 : d.mt u with
            | none => exact ⟨fun y n q => (by cases q), fun _ => c2 e2⟩
            | some p =>
              obtain ⟨y2, n2⟩ := p
              obtain ⟨d1, d2⟩ := c1 y2 n2 e2
              refine ⟨fun y n q => ?_, fun q => by cases q⟩
              cases q
              obtain ⟨g1, g2⟩ := b1.mp hb
              refine ⟨⟨fun z => ?_, fun z => ?_⟩, fun z => ?_⟩
              · obtain ⟨z1, z2⟩ := d1.mp z
                exact ⟨agree_dd.mpr ⟨g1, z1⟩, agree_dd.mpr ⟨g2, z2⟩⟩
              · exact d1.mpr ⟨(agree_dd.mp z.1).2, (agree_dd.mp z.2).2⟩
              · rw [d2 z, upd_dd, upd_dd]
          · rw [if_neg hb]
            cases e2 : d.mt u with
            | none => exact ⟨fun y n q => (by cases q), fun _ => rfl⟩
            | some p =>
              obtain ⟨y2, n2⟩ := p
              refine ⟨fun y n q => ?_, fun q => by cases q⟩
              cases q
              refine ⟨⟨fun z => (by cases z), fun z => ?_⟩, fun z => (by cases z)⟩
              exact absurd (b1.mpr ⟨(agree_dd.mp z.1).1, (agree_dd.mp z.2).1⟩) hb
      · rw [if_neg h, if_neg h]
        exact ⟨fun y n q => (by cases q), fun _ => rfl⟩
    | _ => exact ⟨fun y n q => (by cases q), fun _ => rfl⟩
theorem agree_len {y : List Tr} (h : y.Nodup) : agree none y ↔ y.length ≤ 1 := by
  constructor
  · rintro ⟨t, _, h2⟩
    match y, h, h2 with
    | [], _, _ => simp
    | [_], _, _ => simp
    | a :: b :: r, h, h2 =>
      have e1 := h2 a (by simp)
      have e2 := h2 b (by simp)
      simp only [List.nodup_cons, List.mem_cons, not_or] at h
      exact absurd (e1.trans e2.symm) h.1.1
  · intro hl
    match y, hl with
    | [], _ => exact agree_nil
    | [_], _ => exact agree_one
/-- the program's word on cuts -/
def mtOk (c t : Tr) : Bool := match c.mt t with
  | some (y, n) => decide (y.length ≤ 1) && decide (n.length ≤ 1)
  | none => false
theorem mtOk_bec (c t : Tr) : mtOk c t = (c.bec t (none, none)).1 := by
  obtain ⟨a1, a2⟩ := bec_mt c t (none, none)
  unfold mtOk
  cases e : c.mt t with
  | none => exact (a2 e).symm
  | some p =>
    obtain ⟨y, n⟩ := p
    obtain ⟨b1, _⟩ := a1 y n e
    obtain ⟨n1, n2⟩ := mt_nodup c t e
    rw [agree_len n1, agree_len n2] at b1
    rw [Bool.eq_iff_iff]
    simp only [Bool.and_eq_true, decide_eq_true_eq]
    exact b1.symm
/-! ### where the program does as asked -/
theorem graft_cut : ∀ (c y n : Tr) (E : En), (∀ u, E.1 = some u → u = y) → (∀ u, E.2 = some u → u = n) → (c.bec (c.graft y n) E).1 = true ∧ (∀ u, (c.bec (c.graft y n) E).2.1 = some u → u = y) ∧ ∀ u, (c.bec (c.graft y n) E).2.2 = some u → u = n
  | .yes, y, n, (e1, e2), h1, h2 => by
    unfold Tr.graft Tr.bec
    cases e1 with
    | none => exact ⟨rfl, fun u z => (by cases z; rfl), h2⟩
    | some u => exact ⟨decide_eq_true (h1 u rfl), h1, h2⟩
  | .no, y, n, (e1, e2), h1, h2 => by
    unfold Tr.graft Tr.bec
    cases e2 with
    | none => exact ⟨rfl, h1, fun u z => (by cases z; rfl)⟩
    | some u => exact ⟨decide_eq_true (h2 u rfl), h1, h2⟩
  | .fails w, y, n, E, h1, h2 => ⟨decide_eq_true rfl, h1, h2⟩
  | .shows i c, y, n, E, h1, h2 => by
    unfold Tr.graft Tr.bec
    rw [if_pos rfl]
    exact graft_cut c y n E h1 h2
  | .does i c d, y, n, E, h1, h2 => by
    unfold Tr.graft Tr.bec
    rw [if_pos rfl]
    obtain ⟨a1, a2, a3⟩ := graft_cut c y n E h1 h2
    rw [if_pos a1]
    exact graft_cut d y n _ a2 a3
theorem self_mem (t : Tr) : t ∈ t.all := by cases t <;> simp [Tr.all]
end
section
/-! ### keys that are tuples of texts and ints -/
def flat1 : PyData → Bool
  | .str _ => true
  | .int _ => true
  | _ => false
def flatT : PyData → Bool
  | .tuple xs => xs.all flat1
  | _ => false
def nk1 : PyData → NestedKey
  | .str z => .text z
  | .int i => .num i
  | _ => .none
theorem nkey_flat {x : PyData} (h : flat1 x = true) : nkey x = some (nk1 x) := by
  cases x <;> first | (rw [nkey]; rfl) | cases h
theorem nkeys_flat : ∀ {xs : List PyData}, xs.all flat1 = true → nkeys xs = some (xs.map nk1)
  | [], _ => by rw [nkeys] <;> rfl
  | x :: xs, h => by
    rw [List.all_cons, Bool.and_eq_true] at h
    rw [nkeys, nkey_flat h.1, nkeys_flat h.2] <;> rfl
theorem nk1_inj {x y : PyData} (hx : flat1 x = true) (hy : flat1 y = true) (e : nk1 x = nk1 y) : x = y := by
  cases x <;> cases y <;> first | cases hx; done | cases hy; done | (injection e with e; subst e; rfl) | cases e
theorem nks_inj : ∀ {xs ys : List PyData}, xs.all flat1 = true → ys.all flat1 = true → xs.map nk1 = ys.map nk1 → xs = ys
  | [], [], _, _, _ => rfl
  | [], _ :: _, _, _, e => by cases e
  | _ :: _, [], _, _, e => by cases e
  | x :: xs, y :: ys, hx, hy, e => by
    rw [List.all_cons, Bool.and_eq_true] at hx hy
    rw [List.map_cons, List.map_cons] at e
    injection e with e1 e2
    rw [nk1_inj hx.1 hy.1 e1, nks_inj hx.2 hy.2 e2]
theorem depth_nk {xs : List PyData} (h : xs.all flat1 = true) : (NestedKey.tup (xs.map nk1)).depth ≤ 8 := by
  have e : ∀ xs : List PyData, xs.all flat1 = true → NestedKey.depthAll (xs.map nk1) = 0 := by
    intro xs h
    induction xs with
    | nil => rw [List.map_nil, NestedKey.depthAll]
    | cons x xs ih =>
      rw [List.all_cons, Bool.and_eq_true] at h
      rw [List.map_cons, NestedKey.depthAll, ih h.2]
      cases x <;> first | (rw [nk1, NestedKey.depth] <;> rfl) | cases h.1
  rw [NestedKey.depth, e xs h]
  omega
/-- the key of a flat tuple -/
def kT (x : PyData) : NestedKey := match x with
  | .tuple xs => .tup (xs.map nk1)
  | _ => .none
theorem keyN_flat {x : PyData} (h : flatT x = true) : keyN x = some (kT x) := by
  cases x with
  | tuple xs =>
    have h : xs.all flat1 = true := h
    unfold keyN
    simp only [nkeys_flat h, Option.bind_some]
    rw [if_pos (depth_nk h)]
    rfl
  | _ => cases h
theorem kT_inj {x y : PyData} (hx : flatT x = true) (hy : flatT y = true) (e : kT x = kT y) : x = y := by
  cases x with
  | tuple xs =>
    cases y with
    | tuple ys =>
      injection e with e
      rw [nks_inj (xs := xs) (ys := ys) hx hy e]
    | _ => cases hy
  | _ => cases hx
/-- a dict told by an association list -/
structure Key1 (α : Type) (φ : α → PyData) : Prop where
  fl : ∀ a, flatT (φ a) = true
  inj : ∀ a b, φ a = φ b → a = b
variable {α β : Type} [DecidableEq α] {φ : α → PyData} {ψ : β → W}
def asl (φ : α → PyData) (ψ : β → W) (l : List (α × β)) : List (PyData × W) := l.map fun q => (φ q.1, ψ q.2)
theorem val_asl (k : Key1 α φ) {a : α} : ∀ {l : List (α × β)}, valO keyN (asl φ ψ l) (kT (φ a)) = (l.lookup a).map ψ
  | [] => rfl
  | (b, x) :: l => by
    show valO keyN ((φ b, ψ x) :: asl φ ψ l) (kT (φ a)) = _
    rw [List.lookup_cons]
    by_cases e : a = b
    · subst e
      rw [valO_hit (keyN_flat (k.fl a))]
      simp
    · rw [valO_miss (by rw [keyN_flat (k.fl b)]; exact fun z => e (k.inj _ _ (kT_inj (k.fl _) (k.fl _) (Option.some.inj z))).symm), beq_false_of_ne e, val_asl k]
theorem get_asl (k : Key1 α φ) {os : List Ob} {n : Nat} {l : List (α × β)} {a : α} {b : β} (h : os[n]? = some (.dcn (asl φ ψ l))) (e : l.lookup a = some b) : gIxA os (.obj n) (.d (φ a)) = some (ψ b) := by
  rw [get_o, h]
  show (match (keyN (φ a)).bind (fun k => valO keyN (asl φ ψ l) k) with | some r => some r | none => _) = _
  rw [keyN_flat (k.fl a), Option.bind_some, val_asl k, e]
  rfl
theorem has_asl (k : Key1 α φ) {os : List Ob} {n : Nat} {l : List (α × β)} {a : α} {neg : Bool} (h : os[n]? = some (.dcn (asl φ ψ l))) : gInA neg os (.d (φ a)) (.obj n) = some (.d (.bool ((l.lookup a).isSome != neg))) := by
  have e : gDin os (.d (φ a)) (.obj n) = some ((l.lookup a).isSome) := by
    show hasO os[n]? (φ a) = _
    rw [h]
    show (keyN (φ a)).map (fun k => (valO keyN (asl φ ψ l) k).isSome) = _
    rw [keyN_flat (k.fl a), Option.map_some, val_asl k, Option.isSome_map]
  unfold gInA
  rw [e]
theorem put_asl (k : Key1 α φ) {os : List Ob} {n : Nat} {l : List (α × β)} {a : α} {b : β} (h : os[n]? = some (.dcn (asl φ ψ l))) (hl : l.length < big) (e : l.lookup a = none) {x : PyData} (hb : ψ b = .d x) : stAny os (.obj n) (.d (φ a)) (.d x) = some (os.set n (.dcn (asl φ ψ (l ++ [(a, b)]))), []) := by
  rw [st_o (o := .dcn (asl φ ψ (l ++ [(a, b)])))]
  · rfl
  · rw [h]
    show (if (asl φ ψ l).length < big then (keyN (φ a)).map (fun k => Ob.dcn (putO keyN (asl φ ψ l) k (φ a) (.d x))) else none) = _
    rw [if_pos (by unfold asl; rw [List.length_map]; exact hl), keyN_flat (k.fl a), Option.map_some]
    unfold putO
    rw [val_asl k, e]
    simp [asl, hb]
end
/-! ### entries of a forest -/
inductive Ey where
  | yes | no | fails (w : Str) | shows (k : Int) (j : Nat) | does (k : Int) (j l : Nat)
  deriving DecidableEq
def Ey.dt : Ey → PyData
  | .yes => .tuple [.str "yes"]
  | .no => .tuple [.str "no"]
  | .fails w => .tuple [.str "fails", .str w]
  | .shows k j => .tuple [.str "shows", .int k, .int (j : Int)]
  | .does k j l => .tuple [.str "does", .int k, .int (j : Int), .int (l : Int)]
theorem Ey.key : Key1 Ey Ey.dt := by
  refine ⟨fun a => by cases a <;> rfl, fun a b h => ?_⟩
  cases a <;> cases b <;> simp only [Ey.dt, PyData.tuple.injEq, List.cons.injEq, PyData.str.injEq, PyData.int.injEq, and_true, true_and, reduceCtorEq, and_false, false_and, ne_yes_no, ne_no_yes] at h
  · rfl
  · rfl
  · subst h; rfl
  · obtain ⟨rfl, h⟩ := h; rw [Int.ofNat.inj h]
  · obtain ⟨rfl, h1, h2⟩ := h; rw [Int.ofNat.inj h1, Int.ofNat.inj h2]
def asc (n : Nat) : List Ey → List (Ey × Nat)
  | [] => []
  | e :: es => (e, n) :: asc (n + 1) es
theorem asc_len : ∀ (es : List Ey) (n : Nat), (asc n es).length = es.length
  | [], _ => rfl
  | e :: es, n => by rw [asc, List.length_cons, asc_len es, List.length_cons]
theorem asc_snoc : ∀ (es : List Ey) (n : Nat) (e : Ey), asc n (es ++ [e]) = asc n es ++ [(e, n + es.length)]
  | [], _, _ => rfl
  | x :: es, n, e => by
    rw [List.cons_append, asc, asc_snoc es, asc, List.cons_append, List.length_cons]
    congr 4
    omega
theorem asc_some : ∀ {es : List Ey} {n i : Nat} {e : Ey}, (asc n es).lookup e = some i → n ≤ i ∧ es[i - n]? = some e
  | [], _, _, _, h => by cases h
  | x :: es, n, i, e, h => by
    rw [asc, List.lookup_cons] at h
    by_cases q : e = x
    · subst q
      simp at h
      subst h
      exact ⟨Nat.le_refl _, by simp⟩
    · rw [beq_false_of_ne q] at h
      obtain ⟨h1, h2⟩ := asc_some h
      refine ⟨by omega, ?_⟩
      rw [show i - n = (i - (n + 1)) + 1 by omega, List.getElem?_cons_succ]
      exact h2
theorem asc_none : ∀ {es : List Ey} {n : Nat} {e : Ey}, (asc n es).lookup e = none → e ∉ es
  | [], _, _, _ => by simp
  | x :: es, n, e, h => by
    rw [asc, List.lookup_cons] at h
    by_cases q : e = x
    · subst q; simp at h
    · rw [beq_false_of_ne q] at h
      simp only [List.mem_cons, not_or]
      exact ⟨q, asc_none h⟩
section
/-! ### a forest -/
def insF (n : Nat) : Ob := .ins "Forest" [("entries", .obj (n + 1)), ("known", .obj (n + 2)), ("endings", .d (.dict [])), ("matches", .obj (n + 3))]
def nW (i : Nat) : W := .d (.int (i : Int))
def Fg (o0 : List Ob) (es : List Ey) (l : List (Ey × Nat)) (ms : List (PyData × W)) (tl : List Ob) : List Ob := o0 ++ (insF o0.length :: .lst ((es.map Ey.dt).map .d) :: .dcn (asl Ey.dt nW l) :: .dcn ms :: tl)
abbrev Fo (o0 : List Ob) (es : List Ey) (ms : List (PyData × W)) (tl : List Ob) : List Ob := Fg o0 es (asc 0 es) ms tl
variable {o0 : List Ob} {es : List Ey} {ms : List (PyData × W)} {tl : List Ob} {l : List (Ey × Nat)}
theorem Fo_0 : (Fg o0 es l ms tl)[o0.length]? = some (insF o0.length) := by
  unfold Fg
  rw [List.getElem?_append_right (Nat.le_refl _), Nat.sub_self] <;> rfl
theorem Fo_k {k : Nat} : (Fg o0 es l ms tl)[o0.length + k]? = (insF o0.length :: .lst ((es.map Ey.dt).map .d) :: .dcn (asl Ey.dt nW l) :: .dcn ms :: tl)[k]? := by
  unfold Fg
  rw [List.getElem?_append_right (by omega), show o0.length + k - o0.length = k by omega]
theorem Fo_1 : (Fg o0 es l ms tl)[o0.length + 1]? = some (.lst ((es.map Ey.dt).map .d)) := Fo_k
theorem Fo_2 : (Fg o0 es l ms tl)[o0.length + 2]? = some (.dcn (asl Ey.dt nW l)) := Fo_k
theorem Fo_3 : (Fg o0 es l ms tl)[o0.length + 3]? = some (.dcn ms) := Fo_k
theorem Fo_set {k : Nat} {o : Ob} : (Fg o0 es l ms tl).set (o0.length + k) o = o0 ++ (insF o0.length :: .lst ((es.map Ey.dt).map .d) :: .dcn (asl Ey.dt nW l) :: .dcn ms :: tl).set k o := by
  unfold Fg
  rw [List.set_append, if_neg (by omega), show o0.length + k - o0.length = k by omega]
theorem Fo_fld {f : Str} {w : W} (h : [(("entries" : Str), W.obj (o0.length + 1)), ("known", .obj (o0.length + 2)), ("endings", .d (.dict [])), ("matches", .obj (o0.length + 3))].lookup f = some w) : gFld "Forest" f (Fg o0 es l ms tl) (.obj o0.length) = some w := by
  show fldO "Forest" f (Fg o0 es l ms tl)[o0.length]? = _
  rw [Fo_0]
  show (if ("Forest" : Str) = "Forest" then List.lookup f _ else none) = _
  rw [if_pos rfl]
  exact h
theorem Fo_entries : gFld "Forest" "entries" (Fg o0 es l ms tl) (.obj o0.length) = some (.obj (o0.length + 1)) := Fo_fld rfl
theorem Fo_known : gFld "Forest" "known" (Fg o0 es l ms tl) (.obj o0.length) = some (.obj (o0.length + 2)) := Fo_fld rfl
theorem Fo_matches : gFld "Forest" "matches" (Fg o0 es l ms tl) (.obj o0.length) = some (.obj (o0.length + 3)) := Fo_fld rfl
theorem Fo_cls : classOf (Fg o0 es l ms tl) (.obj o0.length) = some ("Forest" : Str) := by
  show (match (Fg o0 es l ms tl)[o0.length]? with
    | some (.ins c _) => some c
    | _ => none) = _
  rw [Fo_0] <;> rfl
theorem Fo_att {m : Str} (h : m ∉ (["entries", "known", "endings", "matches"] : List Str)) : (m ∉ attrsOf (Fg o0 es l ms tl) (.obj o0.length)) = True := by
  refine eq_true ?_
  show m ∉ attrO (Fg o0 es l ms tl)[o0.length]?
  rw [Fo_0]
  exact h
theorem Fo_put : (("put" : Str) ∉ attrsOf (Fg o0 es l ms tl) (.obj o0.length)) = True := Fo_att (by decide +kernel)
theorem Fo_entry : (("entry" : Str) ∉ attrsOf (Fg o0 es l ms tl) (.obj o0.length)) = True := Fo_att (by decide +kernel)
theorem Fo_within : (("within" : Str) ∉ attrsOf (Fg o0 es l ms tl) (.obj o0.length)) = True := Fo_att (by decide +kernel)
theorem Fo_match : (("match" : Str) ∉ attrsOf (Fg o0 es l ms tl) (.obj o0.length)) = True := Fo_att (by decide +kernel)
theorem Fo_matched : (("_matched" : Str) ∉ attrsOf (Fg o0 es l ms tl) (.obj o0.length)) = True := Fo_att (by decide +kernel)
theorem Fo_iscut : (("is_cut" : Str) ∉ attrsOf (Fg o0 es l ms tl) (.obj o0.length)) = True := Fo_att (by decide +kernel)
theorem Fo_len : (Fg o0 es l ms tl).length = o0.length + 4 + tl.length := by
  unfold Fg
  simp
  omega
theorem Fo_take {es' : List Ey} {l' : List (Ey × Nat)} {ms' : List (PyData × W)} : (Fg o0 es' l' ms' tl).take (Fg o0 es l ms tl).length = Fg o0 es' l' ms' tl := by
  rw [Fo_len, ← Fo_len (es := es') (ms := ms') (l := l'), List.take_length]
theorem Fo_set1 {es' : List Ey} : (Fg o0 es l ms tl).set (o0.length + 1) (.lst ((es'.map Ey.dt).map .d)) = Fg o0 es' l ms tl := by rw [Fo_set] <;> rfl
theorem Fo_set2 {l' : List (Ey × Nat)} : (Fg o0 es l ms tl).set (o0.length + 2) (.dcn (asl Ey.dt nW l')) = Fg o0 es l' ms tl := by rw [Fo_set] <;> rfl
theorem Fo_set3 {ms' : List (PyData × W)} : (Fg o0 es l ms tl).set (o0.length + 3) (.dcn ms') = Fg o0 es l ms' tl := by rw [Fo_set] <;> rfl
theorem Fo_iskn (e : Ey) (neg : Bool) : gInA neg (Fg o0 es l ms tl) (.d e.dt) (.obj (o0.length + 2)) = some (.d (.bool ((l.lookup e).isSome != neg))) := has_asl Ey.key Fo_2
theorem Fo_getE {e : Ey} {i : Nat} (h : l.lookup e = some i) : gIxA (Fg o0 es l ms tl) (.obj (o0.length + 2)) (.d e.dt) = some (nW i) := get_asl Ey.key Fo_2 h
theorem Fo_ent {i : Nat} {e : Ey} (h : es[i]? = some e) : gIxA (Fg o0 es l ms tl) (.obj (o0.length + 1)) (.d (.int (i : Int))) = some (.d e.dt) := gIxA_o Fo_1 (by simp [h])
end
local macro_rules | `(tactic| walk_at "wf") => `(tactic| simp only [wp_var, wp_C, wp_nil, wp_cons, wp_op1, wp_op2, wp_opn, wp_tup, wp_lst, wp_box, wp_truth, wp_bool, wp_andT, wp_orT, wp_notT, wp_andV, wp_orV, wp_notV, wp_ifE, wp_seq, nxt_nx, nxt_rt, nxt_bk, nxt_ct, wp_next, wp_brk, wp_cnt, wp_expr, wp_ret, wp_retN, wp_if, wp_asg, wp_gset, wp_par, wp_sub, wp_setFld, wp_call, wp_meth, wp_make, wp_chain, wp_noP, wp_part, wp_sl, wp_rev, wp_ef, wp_new, wp_it, wp_rng, wp_frz, wp_for, wp_tupF, wp_nilF, wp_consF, wp_yes, wpo_some, wpo_none, post_ok, post_ex, start0_eq, ends_nx, ends_rt, List.getElem?_cons_zero, List.getElem?_cons_succ, List.set_cons_zero, List.set_cons_succ, List.map_cons, List.map_nil, List.length_cons, List.length_nil, List.cons_append, List.nil_append, List.append_nil, Nat.sub_self, Nat.zero_add, Nat.reduceAdd, Nat.reduceSub, List.replicate_succ, List.replicate_zero, true_and, and_true, forall_const, reduceCtorEq, false_implies, implies_true, Bool.true_eq_false, Bool.false_eq_true, Bool.not_true, Bool.not_false, tupO_0, tupO_1, tupO_2, tupO_3, tupO_4, tupO_5, tupO_6, tupO_7, tupO_8, tupO_9, tupO_10, tupO_11, tupO_12, tupO_13, tupO_14, tupO_15, tupO_16, lstO_0, lstO_1, lstO_2, lstO_3, lstO_4, lstO_5, lstO_6, lstO_7, lstO_8, lstO_9, lstO_10, lstO_11, lstO_12, lstO_13, lstO_14, lstO_15, lstO_16, gInA_s2T, gInA_s2L, gInA_i2T, gIs_d, truth_b, truth_t, boolW_b, intW_i, gIxA_t, gIxA_l, gAdd_i, gLe_i, gLt_i, gGt_i, gGe_i, gMinus_i, gEqA_s, gEqA_i, gNe_i, gNe_s, gLen_t, gLen_l, atI_0, atI_1, atI_2, atI_3, cut2, Option.map_some, Option.bind_some, decide_true, decide_false, Bool.not_true, Bool.not_false, Bool.and_true, Bool.true_and, Bool.and_false, Bool.false_and, Bool.or_true, Bool.or_false, Bool.true_or, Bool.false_or, fin_d, allNew_nil, if_true, List.take_length, set_last, rest_last, Bool.bne_true, Bool.true_bne, Bool.false_bne, Bool.bne_false, turn_nx, turn_rt, turn_ct, turn_bk, eq_self, Bool.and_self, Bool.or_self, ne_yes_no, ne_yes_fails, ne_yes_shows, ne_yes_does, ne_yes_wants, ne_no_yes, ne_no_fails, ne_no_shows, ne_no_does, ne_no_wants, ne_fails_yes, ne_fails_no, ne_fails_shows, ne_fails_does, ne_fails_wants, ne_shows_yes, ne_shows_no, ne_shows_fails, ne_shows_does, ne_shows_wants, ne_does_yes, ne_does_no, ne_does_fails, ne_does_shows, ne_does_wants, ne_wants_yes, ne_wants_no, ne_wants_fails, ne_wants_shows, ne_wants_does, isT_bool_NoneType, isT_bool_bool, isT_bool_int, isT_bool_str, isT_bool_tuple, isT_bool_list, isT_bool_dict, isT_int_NoneType, isT_int_bool, isT_int_int, isT_int_str, isT_int_tuple, isT_int_list, isT_int_dict, isT_str_NoneType, isT_str_bool, isT_str_int, isT_str_str, isT_str_tuple, isT_str_list, isT_str_dict, isT_tuple_NoneType, isT_tuple_bool, isT_tuple_int, isT_tuple_str, isT_tuple_tuple, isT_tuple_list, isT_tuple_dict, isT_list_NoneType, isT_list_bool, isT_list_int, isT_list_str, isT_list_tuple, isT_list_list, isT_list_dict, isT_dict_NoneType, isT_dict_bool, isT_dict_int, isT_dict_str, isT_dict_tuple, isT_dict_list, isT_dict_dict, tyD_none, tyD_bool, tyD_int, tyD_str, tyD_tuple, tyD_list, tyD_dict, Dr_wide, Dr_cells, Dr_rest, Dr_turn, Dr_setT, Dr_setR, Dr_wideNe, gInt_i, gAbs_i, gMod_i, gDiv_i, gMul_l, gMul_r, gPow_i, endsP_rt, endsP_nx, ret_ok, seqW_l, seqW_t, take_len, take_len2, Int.reduceLT, Int.reduceLE, Int.reducePow, Int.reduceNeg, Int.reduceToNat, Int.reduceSub, Int.reduceAdd, Fo_entries, Fo_known, Fo_matches, Fo_cls, Fo_put, Fo_entry, Fo_within, Fo_match, Fo_matched, Fo_iscut])
section
variable {o0 : List Ob} {es : List Ey} {ms : List (PyData × W)} {tl : List Ob}
/-- the entry's number, the entries behind it -/
theorem F_entry_eq {e : Ey} (hl : es.length < 100000) : ∃ (i : Nat) (es' : List Ey), F_Forest_entry [.obj o0.length, .d e.dt] (Fo o0 es ms tl) = some (.ok (.d (.int (i : Int))) (Fo o0 es' ms tl) []) ∧ es'[i]? = some e ∧ (es' = es ∨ (e ∉ es ∧ es' = es ++ [e])) := by
  cases q : (asc 0 es).lookup e with
  | some i =>
    obtain ⟨h1, h2⟩ := asc_some q
    refine ⟨i, es, run_of ?_, by simpa using h2, .inl rfl⟩
    unfold b_Forest_entry
    walk_at "wf"
    simp only [Fo_iskn, q]
    walk_at "wf"
    simp only [Option.isSome_some]
    walk_at "wf"
    simp only [Fo_getE q, nW]
    walk_at "wf"
  | none =>
    have h1 := asc_none q
    refine ⟨es.length, es ++ [e], run_of ?_, by simp, .inr ⟨h1, rfl⟩⟩
    unfold b_Forest_entry
    walk_at "wf"
    simp only [Fo_iskn, q]
    walk_at "wf"
    simp only [Option.isSome_none]
    walk_at "wf"
    rw [listO_of Fo_1]
    walk_at "wf"
    rw [put_asl Ey.key Fo_2 (by rw [asc_len]; unfold big; omega) q (b := es.length) (by simp [nW])]
    walk_at "wf"
    rw [Fo_set2]
    walk_at "wf"
    refine ⟨isLst_of Fo_1, ?_⟩
    rw [gApp_of Fo_1 (by simp [big]; omega)]
    walk_at "wf"
    have e1 : (List.map W.d (List.map Ey.dt es) ++ [W.d e.dt]) = ((es ++ [e]).map Ey.dt).map .d := by simp
    rw [e1, Fo_set1]
    have e2 : (asc 0 es ++ [(e, es.length)]) = asc 0 (es ++ [e]) := by rw [asc_snoc, Nat.zero_add]
    rw [e2]
    walk_at "wf"
    have e3 : (asc 0 (es ++ [e])).lookup e = some es.length := by
      rw [← e2, List.lookup_append, q]
      simp
    rw [Fo_getE e3]
    walk_at "wf"
    simp only [nW]
    walk_at "wf"
    rw [Fo_take]
end
section
/-! ### what entries stand for -/
inductive Den (es : List Ey) : Nat → Tr → Prop
  | yes {i : Nat} (h : es[i]? = some .yes) : Den es i .yes
  | no {i : Nat} (h : es[i]? = some .no) : Den es i .no
  | fails {i : Nat} {w : Str} (h : es[i]? = some (.fails w)) : Den es i (.fails w)
  | shows {i j : Nat} {k : Int} {t : Tr} (h : es[i]? = some (.shows k j)) (a : Den es j t) : Den es i (.shows k t)
  | does {i j l : Nat} {k : Int} {t u : Tr} (h : es[i]? = some (.does k j l)) (a : Den es j t) (b : Den es l u) : Den es i (.does k t u)
variable {es es' : List Ey}
theorem Den.mono (p : ∃ more, es' = es ++ more) {i : Nat} {t : Tr} (d : Den es i t) : Den es' i t := by
  have up : ∀ {i : Nat} {e : Ey}, es[i]? = some e → es'[i]? = some e := fun {i e} h => by
    obtain ⟨more, rfl⟩ := p
    rw [List.getElem?_append_left (List.getElem?_eq_some_iff.mp h).1]
    exact h
  induction d with
  | yes h => exact .yes (up h)
  | no h => exact .no (up h)
  | fails h => exact .fails (up h)
  | shows h _ ih => exact .shows (up h) ih
  | does h _ _ ih1 ih2 => exact .does (up h) ih1 ih2
theorem Den.uniq {i : Nat} {t : Tr} (d : Den es i t) : ∀ {u : Tr}, Den es i u → t = u := by
  induction d with
  | yes h => intro u q; cases q with
    | yes _ => rfl
    | no z => rw [h] at z; cases z
    | fails z => rw [h] at z; cases z
    | shows z _ => rw [h] at z; cases z
    | does z _ _ => rw [h] at z; cases z
  | no h => intro u q; cases q with
    | no _ => rfl
    | yes z => rw [h] at z; cases z
    | fails z => rw [h] at z; cases z
    | shows z _ => rw [h] at z; cases z
    | does z _ _ => rw [h] at z; cases z
  | fails h => intro u q; cases q with
    | fails z => rw [h] at z; cases z; rfl
    | yes z => rw [h] at z; cases z
    | no z => rw [h] at z; cases z
    | shows z _ => rw [h] at z; cases z
    | does z _ _ => rw [h] at z; cases z
  | shows h _ ih => intro u q; cases q with
    | shows z a => rw [h] at z; cases z; rw [ih a]
    | yes z => rw [h] at z; cases z
    | no z => rw [h] at z; cases z
    | fails z => rw [h] at z; cases z
    | does z _ _ => rw [h] at z; cases z
  | does h _ _ ih1 ih2 => intro u q; cases q with
    | does z a b => rw [h] at z; cases z; rw [ih1 a, ih2 b]
    | yes z => rw [h] at z; cases z
    | no z => rw [h] at z; cases z
    | fails z => rw [h] at z; cases z
    | shows z _ => rw [h] at z; cases z
theorem nodup_at {α : Type} : ∀ {l : List α}, l.Nodup → ∀ {i j : Nat} {a : α}, l[i]? = some a → l[j]? = some a → i = j
  | [], _, i, j, a, h, _ => by simp at h
  | x :: l, nd, 0, 0, a, _, _ => rfl
  | x :: l, nd, 0, j + 1, a, h1, h2 => by
    simp at h1 h2
    subst h1
    exact absurd (List.mem_of_getElem? h2) (List.nodup_cons.mp nd).1
  | x :: l, nd, i + 1, 0, a, h1, h2 => by
    simp at h1 h2
    subst h2
    exact absurd (List.mem_of_getElem? h1) (List.nodup_cons.mp nd).1
  | x :: l, nd, i + 1, j + 1, a, h1, h2 => by
    rw [List.getElem?_cons_succ] at h1 h2
    rw [nodup_at (List.nodup_cons.mp nd).2 h1 h2]
theorem Den.inj (nd : es.Nodup) {i : Nat} {t : Tr} (d : Den es i t) : ∀ {j : Nat}, Den es j t → i = j := by
  induction d with
  | yes h => intro j q; cases q with
    | yes z => exact nodup_at nd h z
  | no h => intro j q; cases q with
    | no z => exact nodup_at nd h z
  | fails h => intro j q; cases q with
    | fails z => exact nodup_at nd h z
  | shows h _ ih => intro j q; cases q with
    | shows z a =>
      rw [← ih a] at z
      exact nodup_at nd h z
  | does h _ _ ih1 ih2 => intro j q; cases q with
    | does z a b =>
      rw [← ih1 a, ← ih2 b] at z
      exact nodup_at nd h z
theorem Den.lt {i : Nat} {t : Tr} (d : Den es i t) : i < es.length := by
  cases d with
  | yes h => exact (List.getElem?_eq_some_iff.mp h).1
  | no h => exact (List.getElem?_eq_some_iff.mp h).1
  | fails h => exact (List.getElem?_eq_some_iff.mp h).1
  | shows h _ => exact (List.getElem?_eq_some_iff.mp h).1
  | does h _ _ => exact (List.getElem?_eq_some_iff.mp h).1
structure Gd (es : List Ey) : Prop where
  nd : es.Nodup
  y : es[0]? = some .yes
  n : es[1]? = some .no
  de : ∀ i, i < es.length → ∃ t, Den es i t
theorem Gd.snoc {e : Ey} (g : Gd es) (hn : e ∉ es) {t : Tr} (d : Den (es ++ [e]) es.length t) : Gd (es ++ [e]) := by
  have up : ∀ {i : Nat} {x : Ey}, es[i]? = some x → (es ++ [e])[i]? = some x := fun {i x} h => by
    rw [List.getElem?_append_left (List.getElem?_eq_some_iff.mp h).1]
    exact h
  refine ⟨?_, up g.y, up g.n, fun i hi => ?_⟩
  · rw [List.nodup_append]
    exact ⟨g.nd, by simp, fun a ha b hb => by rw [List.mem_singleton.mp hb]; exact fun z => hn (z ▸ ha)⟩
  · by_cases h : i < es.length
    · obtain ⟨u, du⟩ := g.de i h
      exact ⟨u, du.mono ⟨_, rfl⟩⟩
    · have : i = es.length := by simp at hi; omega
      subst this
      exact ⟨t, d⟩
/-- an entry is put -/
theorem entry_gd {e : Ey} {i : Nat} {t : Tr} (g : Gd es) (h1 : es'[i]? = some e) (h2 : es' = es ∨ (e ∉ es ∧ es' = es ++ [e])) (d : ∀ {fs : List Ey} {j : Nat}, (∃ more, fs = es ++ more) → fs[j]? = some e → Den fs j t) : Gd es' ∧ (∃ more, es' = es ++ more) ∧ Den es' i t ∧ es'.length ≤ es.length + 1 := by
  rcases h2 with rfl | ⟨hn, rfl⟩
  · exact ⟨g, ⟨[], by simp⟩, d ⟨[], by simp⟩ h1, by omega⟩
  · refine ⟨g.snoc hn (d ⟨_, rfl⟩ (by simp)), ⟨_, rfl⟩, d ⟨_, rfl⟩ h1, by simp⟩
variable {o0 : List Ob} {ms : List (PyData × W)} {tl : List Ob}
theorem pre_trans {a b c : List Ey} (h : ∃ m, b = a ++ m) (k : ∃ m, c = b ++ m) : ∃ m, c = a ++ m := by
  obtain ⟨m, rfl⟩ := h
  obtain ⟨m', rfl⟩ := k
  exact ⟨m ++ m', by simp⟩
theorem F_put_eq : ∀ (n : Nat) (t : Tr) (es : List Ey), t.deep < n → Gd es → es.length + t.all.length ≤ 50000 →
    ∃ (i : Nat) (es' : List Ey), F_Forest_put n [.obj o0.length, .d t.dt] (Fo o0 es ms tl) = some (.ok (.d (.int (i : Int))) (Fo o0 es' ms tl) []) ∧ Gd es' ∧ (∃ more, es' = es ++ more) ∧ Den es' i t ∧ es'.length ≤ es.length + t.all.length
  | 0, _, _, h, _, _ => absurd h (Nat.not_lt_zero _)
  | n + 1, t, es, h, g, hl => by
    show ∃ i es', runF _ (b_Forest_put (F_Forest_put n)) _ _ = _ ∧ _
    cases t with
    | yes =>
      obtain ⟨i, es', e1, e2, e3⟩ := F_entry_eq (o0 := o0) (es := es) (ms := ms) (tl := tl) (e := .yes) (by omega)
      obtain ⟨g', p, d, l⟩ := entry_gd (t := .yes) g e2 e3 fun _ z => .yes z
      refine ⟨i, es', run_of ?_, g', p, d, by simpa [Tr.all] using l⟩
      unfold b_Forest_put
      simp only [Tr.dt]
      walk_at "wf"
      rw [show PyData.tuple [.str "yes"] = Ey.yes.dt from rfl, e1]
      walk_at "wf"
      rw [Fo_take]
    | no =>
      obtain ⟨i, es', e1, e2, e3⟩ := F_entry_eq (o0 := o0) (es := es) (ms := ms) (tl := tl) (e := .no) (by omega)
      obtain ⟨g', p, d, l⟩ := entry_gd (t := .no) g e2 e3 fun _ z => .no z
      refine ⟨i, es', run_of ?_, g', p, d, by simpa [Tr.all] using l⟩
      unfold b_Forest_put
      simp only [Tr.dt]
      walk_at "wf"
      rw [show PyData.tuple [.str "no"] = Ey.no.dt from rfl, e1]
      walk_at "wf"
      rw [Fo_take]
    | fails w =>
      obtain ⟨i, es', e1, e2, e3⟩ := F_entry_eq (o0 := o0) (es := es) (ms := ms) (tl := tl) (e := .fails w) (by omega)
      obtain ⟨g', p, d, l⟩ := entry_gd (t := .fails w) g e2 e3 fun _ z => .fails z
      refine ⟨i, es', run_of ?_, g', p, d, by simpa [Tr.all] using l⟩
      unfold b_Forest_put
      simp only [Tr.dt]
      walk_at "wf"
      rw [show PyData.tuple [.str "fails", .str w] = (Ey.fails w).dt from rfl, e1]
      walk_at "wf"
      rw [Fo_take]
    | shows k t =>
      simp only [Tr.deep, Tr.all, List.length_cons] at h hl
      obtain ⟨j, es1, e1, g1, p1, d1, l1⟩ := F_put_eq n t es (by omega) g (by omega)
      obtain ⟨i, es', e2, e3, e4⟩ := F_entry_eq (o0 := o0) (es := es1) (ms := ms) (tl := tl) (e := .shows k j) (by omega)
      obtain ⟨g', p, d, l⟩ := entry_gd (t := .shows k t) g1 e3 e4 fun p z => .shows z (d1.mono p)
      refine ⟨i, es', run_of ?_, g', pre_trans p1 p, d, by simp only [Tr.all, List.length_cons]; omega⟩
      unfold b_Forest_put
      simp only [Tr.dt]
      walk_at "wf"
      rw [e1]
      walk_at "wf"
      rw [show PyData.tuple [.str "shows", .int k, .int (j : Int)] = (Ey.shows k j).dt from rfl, e2]
      walk_at "wf"
      rw [Fo_take]
    | does k t u =>
      simp only [Tr.deep, Tr.all, List.length_cons, List.length_append] at h hl
      obtain ⟨j, es1, e1, g1, p1, d1, l1⟩ := F_put_eq n t es (by omega) g (by omega)
      obtain ⟨j2, es2, e2, g2, p2, d2, l2⟩ := F_put_eq n u es1 (by omega) g1 (by omega)
      obtain ⟨i, es', e3, e4, e5⟩ := F_entry_eq (o0 := o0) (es := es2) (ms := ms) (tl := tl) (e := .does k j j2) (by omega)
      obtain ⟨g', p, d, l⟩ := entry_gd (t := .does k t u) g2 e4 e5 fun p z => .does z ((d1.mono p2).mono p) (d2.mono p)
      refine ⟨i, es', run_of ?_, g', pre_trans p1 (pre_trans p2 p), d, by simp only [Tr.all, List.length_cons, List.length_append]; omega⟩
      unfold b_Forest_put
      simp only [Tr.dt]
      walk_at "wf"
      rw [e1]
      walk_at "wf"
      rw [e2]
      walk_at "wf"
      rw [show PyData.tuple [.str "does", .int k, .int (j : Int), .int (j2 : Int)] = (Ey.does k j j2).dt from rfl, e3]
      walk_at "wf"
      rw [Fo_take]
end
section
/-! ### all that stands in a tree of a forest -/
def dS (S : List Nat) : List (PyData × W) := S.map fun (i : Nat) => (.int (i : Int), .d (.bool true))
theorem val_dS {i : Nat} : ∀ {S : List Nat}, valO keyK (dS S) (.inl (i : Int)) = if i ∈ S then some (.d (.bool true)) else none
  | [] => rfl
  | j :: S => by
    show valO keyK ((.int (j : Int), .d (.bool true)) :: dS S) (.inl (i : Int)) = _
    by_cases e : i = j
    · subst e
      rw [valO_hit (by rfl)]
      simp
    · rw [valO_miss (by intro z; have := Sum.inl.inj (Option.some.inj z); omega), val_dS]
      simp [e]
theorem has_dS {os : List Ob} {n i : Nat} {S : List Nat} {neg : Bool} (h : os[n]? = some (.dct (dS S))) : gInA neg os (.d (.int (i : Int))) (.obj n) = some (.d (.bool (decide (i ∈ S) != neg))) := by
  have e : gDin os (.d (.int (i : Int))) (.obj n) = some (decide (i ∈ S)) := by
    show hasO os[n]? (.int (i : Int)) = _
    rw [h]
    show some ((valO keyK (dS S) (.inl (i : Int))).isSome) = _
    rw [val_dS]
    by_cases q : i ∈ S <;> simp [q]
  unfold gInA
  rw [e]
theorem put_dS {os : List Ob} {n i : Nat} {S : List Nat} (h : os[n]? = some (.dct (dS S))) (hl : S.length < big) (hi : i ∉ S) : stAny os (.obj n) (.d (.int (i : Int))) (.d (.bool true)) = some (os.set n (.dct (dS (S ++ [i]))), []) := by
  rw [st_o (o := .dct (dS (S ++ [i])))]
  · rfl
  · rw [h]
    show (if (dS S).length < big then (keyK (.int (i : Int))).map (fun k => Ob.dct (putO keyK (dS S) k (.int (i : Int)) (.d (.bool true)))) else none) = _
    rw [if_pos (by unfold dS; rw [List.length_map]; exact hl)]
    show some (Ob.dct (putO keyK (dS S) (.inl (i : Int)) (.int (i : Int)) (.d (.bool true)))) = _
    unfold putO
    rw [val_dS, if_neg hi]
    simp [dS]
theorem list_dS {os : List Ob} {n : Nat} {S : List Nat} (h : os[n]? = some (.dct (dS S))) : gListA os [.obj n] = some (.d (.list (S.map fun (i : Nat) => .int (i : Int)))) := by
  have e : gListD os [.obj n] = some (.d (.list (S.map fun (i : Nat) => .int (i : Int)))) := by
    show (keysO os[n]?).map _ = _
    rw [h]
    show some (W.d (.list ((dS S).map (·.1)))) = _
    unfold dS
    rw [List.map_map] <;> rfl
  unfold gListA
  rw [e]
variable {es : List Ey}
/-- the numbers within an entry -/
def Ey.kids : Ey → List Nat
  | .shows _ j => [j]
  | .does _ j l => [j, l]
  | _ => []
theorem Den.kid {i j : Nat} {t : Tr} {e : Ey} (d : Den es i t) (h : es[i]? = some e) (hj : j ∈ e.kids) : ∃ u, Den es j u ∧ ∀ v ∈ u.all, v ∈ t.all := by
  cases d with
  | yes z => rw [h] at z; cases z; cases hj
  | no z => rw [h] at z; cases z; cases hj
  | fails z => rw [h] at z; cases z; cases hj
  | shows z a =>
    rw [h] at z
    cases z
    rw [Ey.kids, List.mem_singleton] at hj
    subst hj
    exact ⟨_, a, fun v hv => by simp [Tr.all, hv]⟩
  | does z a b =>
    rw [h] at z
    cases z
    simp only [Ey.kids, List.mem_cons, List.not_mem_nil, or_false] at hj
    rcases hj with rfl | rfl
    · exact ⟨_, a, fun v hv => by simp [Tr.all, hv]⟩
    · exact ⟨_, b, fun v hv => by simp [Tr.all, hv]⟩
/-- a lot that is closed has all within -/
theorem Den.closed {S : List Nat} (hS : ∀ i ∈ S, ∀ e, es[i]? = some e → ∀ j ∈ e.kids, j ∈ S) {i : Nat} {t : Tr} (d : Den es i t) : i ∈ S → ∀ u ∈ t.all, ∃ j ∈ S, Den es j u := by
  induction d with
  | yes h => intro hi u hu; simp [Tr.all] at hu; subst hu; exact ⟨_, hi, .yes h⟩
  | no h => intro hi u hu; simp [Tr.all] at hu; subst hu; exact ⟨_, hi, .no h⟩
  | fails h => intro hi u hu; simp [Tr.all] at hu; subst hu; exact ⟨_, hi, .fails h⟩
  | shows h a ih =>
    intro hi u hu
    simp only [Tr.all, List.mem_cons] at hu
    rcases hu with rfl | hu
    · exact ⟨_, hi, .shows h a⟩
    · exact ih (hS _ hi _ h _ (by simp [Ey.kids])) u hu
  | does h a b ih1 ih2 =>
    intro hi u hu
    simp only [Tr.all, List.mem_cons, List.mem_append] at hu
    rcases hu with rfl | hu | hu
    · exact ⟨_, hi, .does h a b⟩
    · exact ih1 (hS _ hi _ h _ (by simp [Ey.kids])) u hu
    · exact ih2 (hS _ hi _ h _ (by simp [Ey.kids])) u hu
theorem nodup_bound : ∀ {n : Nat} {S : List Nat}, S.Nodup → (∀ i ∈ S, i < n) → S.length ≤ n
  | 0, S, _, h => by
    cases S with
    | nil => simp
    | cons a S => exact absurd (h a List.mem_cons_self) (Nat.not_lt_zero _)
  | n + 1, S, nd, h => by
    by_cases q : n ∈ S
    · have h1 := nodup_bound (n := n) (nd.erase n) fun i hi => by
        have h2 := h i (List.mem_of_mem_erase hi)
        have h3 : i ≠ n := fun z => by
          subst z
          exact absurd hi (List.Nodup.not_mem_erase nd)
        omega
      rw [List.length_erase_of_mem q] at h1
      omega
    · have h1 := nodup_bound (n := n) nd fun i hi => by
        have h2 := h i hi
        have h3 : i ≠ n := fun z => q (z ▸ hi)
        omega
      omega
end
section
variable {es : List Ey} {o0 : List Ob} {ms : List (PyData × W)}
theorem Fo_ap {tl more : List Ob} : Fg o0 es (asc 0 es) ms tl ++ more = Fg o0 es (asc 0 es) ms (tl ++ more) := by
  unfold Fg
  simp
theorem Fo_app {l : List (Ey × Nat)} {tl more : List Ob} : Fg o0 es l ms tl ++ more = Fg o0 es l ms (tl ++ more) := by
  unfold Fg
  simp
variable {l : List (Ey × Nat)} {x y z : Ob} {tl : List Ob}
theorem Fo_t0 : (Fg o0 es l ms (x :: tl))[o0.length + 4]? = some x := Fo_k
theorem Fo_t1 : (Fg o0 es l ms (x :: y :: tl))[o0.length + 5]? = some y := Fo_k
theorem Fo_s0 : (Fg o0 es l ms (x :: tl)).set (o0.length + 4) z = Fg o0 es l ms (z :: tl) := by rw [Fo_set] <;> rfl
theorem Fo_s1 : (Fg o0 es l ms (x :: y :: tl)).set (o0.length + 5) z = Fg o0 es l ms (x :: z :: tl) := by rw [Fo_set] <;> rfl
theorem Fo_cut : (Fg o0 es l ms tl).take (o0.length + 4 + 0) = Fg o0 es l ms [] := by
  have e := Fo_app (o0 := o0) (es := es) (ms := ms) (l := l) (tl := []) (more := tl)
  rw [List.nil_append] at e
  rw [← e]
  exact List.take_left' Fo_len
theorem all_trans : ∀ (t u v : Tr), u ∈ t.all → v ∈ u.all → v ∈ t.all
  | .yes, u, v, h1, h2 => by simp [Tr.all] at h1; subst h1; exact h2
  | .no, u, v, h1, h2 => by simp [Tr.all] at h1; subst h1; exact h2
  | .fails w, u, v, h1, h2 => by simp [Tr.all] at h1; subst h1; exact h2
  | .shows i t, u, v, h1, h2 => by
    simp only [Tr.all, List.mem_cons] at h1
    rcases h1 with rfl | h1
    · exact h2
    · simp [Tr.all, all_trans t u v h1 h2]
  | .does i a b, u, v, h1, h2 => by
    simp only [Tr.all, List.mem_cons, List.mem_append] at h1
    rcases h1 with rfl | h1 | h1
    · exact h2
    · simp [Tr.all, all_trans a u v h1 h2]
    · simp [Tr.all, all_trans b u v h1 h2]
set_option maxHeartbeats 8000000 in
theorem F_within_eq (g : Gd es) (hl : es.length ≤ 50000) {r : Nat} {t : Tr} (dr : Den es r t) : ∃ ns : List Nat, F_Forest_within [.obj o0.length, .d (.int (r : Int))] (Fo o0 es ms []) = some (.ok (.d (.list (ns.map fun (i : Nat) => .int (i : Int)))) (Fo o0 es ms []) []) ∧ ns.length ≤ es.length ∧ (∀ i ∈ ns, ∃ u, Den es i u ∧ u ∈ t.all) ∧ ∀ u ∈ t.all, ∃ i ∈ ns, Den es i u := by
  have goal : Tells F_Forest_within [.obj o0.length, .d (.int (r : Int))] (Fo o0 es ms []) fun x os' => os' = Fo o0 es ms [] ∧ ∃ ns : List Nat, x = .list (ns.map fun (i : Nat) => .int (i : Int)) ∧ ns.length ≤ es.length ∧ (∀ i ∈ ns, ∃ u, Den es i u ∧ u ∈ t.all) ∧ ∀ u ∈ t.all, ∃ i ∈ ns, Den es i u := by
    refine Tells.run ?_
    unfold b_Forest_within
    walk_at "wf"
    refine ⟨by decide, ?_⟩
    simp only [Fo_app, Fo_len]
    walk_at "wf"
    refine wp_while (fun n s => ∃ (S T : List Nat) (h4 h5 : Option W), s = ⟨[some (.obj o0.length), some (.d (.int (r : Int))), some (.obj (o0.length + 4)), some (.obj (o0.length + 5)), h4, h5], Fo o0 es ms [.dct (dS S), .lst ((T.map fun (i : Nat) => PyData.int (i : Int)).map .d)], []⟩ ∧
      S.Nodup ∧ (∀ i ∈ S ++ T, ∃ u, Den es i u ∧ u ∈ t.all) ∧ r ∈ S ++ T ∧ (∀ i ∈ S, ∀ e, es[i]? = some e → ∀ j ∈ e.kids, j ∈ S ++ T) ∧ n = 3 * (es.length - S.length) + T.length ∧ n ≤ 3 * es.length + 1) (n := 3 * es.length + 1) ?_ ?_
    · exact ⟨[], [r], none, none, rfl, by simp, fun i hi => by simp at hi; subst hi; exact ⟨t, dr, self_mem t⟩, by simp, fun i hi => (by cases hi), by simp, by omega⟩
    · rintro n s ⟨S, T, h4, h5, rfl, nd, hA, hr, hC, hn, hb⟩
      have hT : (Fo o0 es ms [.dct (dS S), .lst ((T.map fun (i : Nat) => PyData.int (i : Int)).map .d)])[o0.length + 5]? = some (.lst ((T.map fun (i : Nat) => PyData.int (i : Int)).map .d)) := Fo_t1
      walk_at "wf"
      rw [truth_o hT]
      walk_at "wf"
      refine ⟨fun h => ?_, fun h => ?_⟩
      · have hne : T ≠ [] := fun z => by subst z; simp at h
        obtain ⟨T', i, rfl⟩ := cons_last T hne
        refine ⟨isLst_of hT, ?_⟩
        rw [List.map_append, List.map_append] at hT ⊢
        rw [gPop_last (us := (T'.map fun (i : Nat) => PyData.int (i : Int)).map .d) (u := .d (.int (i : Int))) hT]
        walk_at "wf"
        simp only [Fo_s1]
        have hS : ∀ {x : Ob}, (Fo o0 es ms [.dct (dS S), x])[o0.length + 4]? = some (.dct (dS S)) := Fo_t0
        simp only [has_dS hS]
        walk_at "wf"
        rw [List.length_append, List.length_singleton] at hn
        obtain ⟨u, du, hu⟩ := hA i (by simp)
        refine ⟨fun hi => ?_, fun hi => ?_⟩
        · have hi : i ∉ S := by simpa using hi
          rw [put_dS hS (by have := nodup_bound (n := es.length) nd (fun j hj => by obtain ⟨v, dv, _⟩ := hA j (by simp [hj]); exact dv.lt); unfold big; omega) hi]
          walk_at "wf"
          simp only [Fo_s0]
          walk_at "wf"
          obtain ⟨e, he⟩ : ∃ e, es[i]? = some e := ⟨_, List.getElem?_eq_getElem du.lt⟩
          simp only [Fo_ent he]
          walk_at "wf"
          have fin : ∀ (K : List Nat) (h5 : Option W), K = e.kids → ∃ m, m < n ∧ ∃ (S' T : List Nat) (h4 h5' : Option W), (⟨[some (.obj o0.length), some (.d (.int (r : Int))), some (.obj (o0.length + 4)), some (.obj (o0.length + 5)), some (.d (.int (i : Int))), h5], Fo o0 es ms [.dct (dS (S ++ [i])), .lst (((T' ++ K).map fun (i : Nat) => PyData.int (i : Int)).map .d)], []⟩ : AS) = ⟨[some (.obj o0.length), some (.d (.int (r : Int))), some (.obj (o0.length + 4)), some (.obj (o0.length + 5)), h4, h5'], Fo o0 es ms [.dct (dS S'), .lst ((T.map fun (i : Nat) => PyData.int (i : Int)).map .d)], []⟩ ∧
      S'.Nodup ∧ (∀ i ∈ S' ++ T, ∃ u, Den es i u ∧ u ∈ t.all) ∧ r ∈ S' ++ T ∧ (∀ i ∈ S', ∀ e, es[i]? = some e → ∀ j ∈ e.kids, j ∈ S' ++ T) ∧ m = 3 * (es.length - S'.length) + T.length ∧ m ≤ 3 * es.length + 1 := by
            intro K h5 hK
            subst hK
            have nd' : (S ++ [i]).Nodup := by
              rw [List.nodup_append]
              exact ⟨nd, by simp, fun a ha b hb => by rw [List.mem_singleton.mp hb]; exact fun z => hi (z ▸ ha)⟩
            have hb' := nodup_bound (n := es.length) nd' fun j hj => by
              rcases List.mem_append.mp hj with hj | hj
              · obtain ⟨v, dv, _⟩ := hA j (by simp [hj]); exact dv.lt
              · rw [List.mem_singleton.mp hj]; exact du.lt
            have hk2 : e.kids.length ≤ 2 := by cases e <;> simp [Ey.kids]
            rw [List.length_append, List.length_singleton] at hb'
            refine ⟨3 * (es.length - (S ++ [i]).length) + (T' ++ e.kids).length, ?_, S ++ [i], T' ++ e.kids, _, _, rfl, nd', fun j hj => ?_, ?_, fun j hj e' he' k hk => ?_, rfl, ?_⟩
            · simp only [List.length_append, List.length_singleton]; omega
            · simp only [List.mem_append, List.mem_singleton] at hj
              rcases hj with (hj | rfl) | (hj | hj)
              · exact hA j (by simp [hj])
              · exact ⟨u, du, hu⟩
              · exact hA j (by simp [hj])
              · obtain ⟨v, dv, hv⟩ := du.kid he hj
                exact ⟨v, dv, all_trans t u v hu (hv v (self_mem v))⟩
            · simp only [List.mem_append, List.mem_singleton] at hr ⊢
              rcases hr with hr | hr | hr
              · exact .inl (.inl hr)
              · exact .inr (.inl hr)
              · exact .inl (.inr hr)
            · simp only [List.mem_append, List.mem_singleton] at hj ⊢
              rcases hj with hj | rfl
              · have := hC j hj e' he' k hk
                simp only [List.mem_append, List.mem_singleton] at this
                rcases this with z | z | z
                · exact .inl (.inl z)
                · exact .inr (.inl z)
                · exact .inl (.inr z)
              · rw [he] at he'
                cases he'
                exact .inr (.inr hk)
            · simp only [List.length_append, List.length_singleton]; omega
          have hb'' := nodup_bound (n := es.length) nd fun j hj => by obtain ⟨v, dv, _⟩ := hA j (by simp [hj]); exact dv.lt
          have ext : ∀ {os : List Ob} {K : List Nat}, os[o0.length + 5]? = some (.lst ((T'.map fun (i : Nat) => PyData.int (i : Int)).map .d)) → K.length ≤ 2 → gExtend os (.obj (o0.length + 5)) [.d (.list (K.map fun (i : Nat) => .int (i : Int)))] = some (.d .none, os.set (o0.length + 5) (.lst (((T' ++ K).map fun (i : Nat) => PyData.int (i : Int)).map .d)), []) := fun {os K} ho hK => by
            rw [gExt_of ho rfl (by simp [big]; omega)]
            simp
          cases e with
          | yes =>
            simp only [Ey.dt]
            walk_at "wf"
            refine ⟨isLst_of Fo_t1, ?_⟩
            rw [show W.d (.list []) = W.d (.list (([] : List Nat).map fun (i : Nat) => .int (i : Int))) from rfl, ext Fo_t1 (by simp)]
            walk_at "wf"
            rw [Fo_s1]
            have q := fin [] (some (.d (.tuple [.str "yes"]))) rfl
            rw [List.append_nil] at q
            exact q
          | no =>
            simp only [Ey.dt]
            walk_at "wf"
            refine ⟨isLst_of Fo_t1, ?_⟩
            rw [show W.d (.list []) = W.d (.list (([] : List Nat).map fun (i : Nat) => .int (i : Int))) from rfl, ext Fo_t1 (by simp)]
            walk_at "wf"
            rw [Fo_s1]
            have q := fin [] (some (.d (.tuple [.str "no"]))) rfl
            rw [List.append_nil] at q
            exact q
          | fails w =>
            simp only [Ey.dt]
            walk_at "wf"
            refine ⟨isLst_of Fo_t1, ?_⟩
            rw [show W.d (.list []) = W.d (.list (([] : List Nat).map fun (i : Nat) => .int (i : Int))) from rfl, ext Fo_t1 (by simp)]
            walk_at "wf"
            rw [Fo_s1]
            have q := fin [] (some (.d (.tuple [.str "fails", .str w]))) rfl
            rw [List.append_nil] at q
            exact q
          | shows k j =>
            simp only [Ey.dt]
            walk_at "wf"
            simp only [gListA_t]
            walk_at "wf"
            refine ⟨isLst_of Fo_t1, ?_⟩
            rw [show W.d (.list [.int (j : Int)]) = W.d (.list (([j] : List Nat).map fun (i : Nat) => .int (i : Int))) from rfl, ext Fo_t1 (by simp)]
            walk_at "wf"
            rw [Fo_s1]
            exact fin [j] _ rfl
          | does k j l =>
            simp only [Ey.dt]
            walk_at "wf"
            simp only [gListA_t]
            walk_at "wf"
            refine ⟨isLst_of Fo_t1, ?_⟩
            rw [show W.d (.list [.int (j : Int), .int (l : Int)]) = W.d (.list (([j, l] : List Nat).map fun (i : Nat) => .int (i : Int))) from rfl, ext Fo_t1 (by simp)]
            walk_at "wf"
            rw [Fo_s1]
            exact fin [j, l] _ rfl
        · have hi : i ∈ S := by simpa using hi
          refine ⟨3 * (es.length - S.length) + T'.length, by omega, S, T', _, _, rfl, nd, fun j hj => hA j ?_, ?_, fun j hj e he k hk => ?_, rfl, by omega⟩
          · simp only [List.mem_append] at hj ⊢
            rcases hj with hj | hj
            · exact .inl hj
            · exact .inr (.inl hj)
          · simp only [List.mem_append, List.mem_singleton] at hr ⊢
            rcases hr with hr | hr | rfl
            · exact .inl hr
            · exact .inr hr
            · exact .inl hi
          · have := hC j hj e he k hk
            simp only [List.mem_append, List.mem_singleton] at this ⊢
            rcases this with z | z | rfl
            · exact .inl z
            · exact .inr z
            · exact .inl hi
      · have hT0 : T = [] := by
          cases T with
          | nil => rfl
          | cons a T => simp at h
        subst hT0
        have hS : ∀ {x : Ob}, (Fo o0 es ms [.dct (dS S), x])[o0.length + 4]? = some (.dct (dS S)) := Fo_t0
        rw [list_dS hS]
        walk_at "wf"
        rw [List.append_nil] at hA hr
        simp only [List.append_nil] at hC
        refine ⟨?_, S, rfl, nodup_bound nd fun j hj => (by obtain ⟨v, dv, _⟩ := hA j hj; exact dv.lt), hA, dr.closed (fun i hi e he j hj => hC i hi e he j hj) hr⟩
        exact Fo_cut
  obtain ⟨r, e, p⟩ := goal
  cases r with
  | ok w os' es => cases w with
    | d y =>
      obtain ⟨rfl, rfl, ps, rfl, h0, h1, h2⟩ := p
      exact ⟨ps, e, h0, h1, h2⟩
    | _ => exact p.elim
  | _ => exact p.elim
end
section
variable {s : AS} {X : Ex → AS → Prop}
theorem wp_parT {t : List W → FM Unit} {n : Nat} {ms : FM (List W)} {Q : Fl → AS → Prop} : wp (mParT t n ms) s Q X = wp ms s (fun ws s1 => (ws.length = n ∧ n ≤ 100) ∧ wp (t ws) s1 (fun _ s2 => Q .nx s2) X) X := by
  refine wp_bindE fun ws s1 => ?_
  by_cases h : ws.length = n ∧ n ≤ 100
  · refine Eq.trans (b := wp ((t ws).bind fun _ => FM.pure .nx) s1 Q X) ?_ ?_
    · unfold wp
      dsimp only
      rw [if_pos h]
    · rw [wp_bindE (Q' := fun _ s2 => Q .nx s2) fun _ s2 => rfl]
      exact propext ⟨fun q => ⟨h, q⟩, fun q => q.2⟩
  · refine Eq.trans (b := False) ?_ (propext ⟨False.elim, fun q => h q.1⟩)
    unfold wp
    dsimp only
    rw [if_neg h]
theorem wp_callK {n : Nat} {perm : List Nat} {F : Fn} {ms : FM (List W)} {Q : W → AS → Prop} : wp (mCallK n perm F ms) s Q X = wp ms s (fun ws s1 => (perm.map fun i => ws.getD i (.d .none)).length = n ∧ post (F (perm.map fun i => ws.getD i (.d .none)) s1.os) s1 Q X) X := by
  exact wp_bindE fun ws s1 => wp_run1
theorem wp_raise {c : Str} {gI : List PyData → Option (List (Str × PyData))} {ms : FM (List W)} {Q : Fl → AS → Prop} : wp (mRaise c gI ms) s Q X = wp ms s (fun ws s1 => wpo ((datas ws).bind gI) fun fl => ws.length ≤ 100 ∧ X ⟨c, fl⟩ s1) X := by
  refine wp_bindE fun ws s1 => ?_
  unfold wp wpo
  dsimp only
  cases (datas ws).bind gI with
  | none => rfl
  | some fl =>
    dsimp only
    by_cases h : ws.length ≤ 100
    · simp only [h, if_true, true_and]
    · simp only [h, if_false, false_and]
theorem wp_lstF {n : Nat} {t : List W → FM Unit} {w : W} {Q : Unit → AS → Prop} : wp (gLstF n t w) s Q X = match w with | .d (.list xs) => xs.length = n ∧ wp (t (xs.map .d)) s Q X | _ => False := by
  cases w with
  | d x =>
    cases x with
    | list xs =>
      by_cases h : xs.length = n
      · refine Eq.trans (b := wp (t (xs.map .d)) s Q X) ?_ (propext ⟨fun q => ⟨h, q⟩, fun q => q.2⟩)
        show wp (fun s => if xs.length = n then t (xs.map .d) s else none) s Q X = _
        unfold wp
        dsimp only
        rw [if_pos h]
      · refine Eq.trans (b := False) ?_ (propext ⟨False.elim, fun q => h q.1⟩)
        show wp (fun s => if xs.length = n then t (xs.map .d) s else none) s Q X = _
        unfold wp
        dsimp only
        rw [if_neg h]
    | _ => rfl
  | obj n => rfl
  | exc e => rfl
end
local macro_rules | `(tactic| walk_at "wg") => `(tactic| simp only [wp_var, wp_C, wp_nil, wp_cons, wp_op1, wp_op2, wp_opn, wp_tup, wp_lst, wp_box, wp_truth, wp_bool, wp_andT, wp_orT, wp_notT, wp_andV, wp_orV, wp_notV, wp_ifE, wp_seq, nxt_nx, nxt_rt, nxt_bk, nxt_ct, wp_next, wp_brk, wp_cnt, wp_expr, wp_ret, wp_retN, wp_if, wp_asg, wp_gset, wp_par, wp_sub, wp_setFld, wp_call, wp_meth, wp_make, wp_chain, wp_noP, wp_part, wp_sl, wp_rev, wp_ef, wp_new, wp_it, wp_rng, wp_frz, wp_for, wp_tupF, wp_nilF, wp_consF, wp_yes, wpo_some, wpo_none, post_ok, post_ex, start0_eq, ends_nx, ends_rt, List.getElem?_cons_zero, List.getElem?_cons_succ, List.set_cons_zero, List.set_cons_succ, List.map_cons, List.map_nil, List.length_cons, List.length_nil, List.cons_append, List.nil_append, List.append_nil, Nat.sub_self, Nat.zero_add, Nat.reduceAdd, Nat.reduceSub, List.replicate_succ, List.replicate_zero, true_and, and_true, forall_const, reduceCtorEq, false_implies, implies_true, Bool.true_eq_false, Bool.false_eq_true, Bool.not_true, Bool.not_false, tupO_0, tupO_1, tupO_2, tupO_3, tupO_4, tupO_5, tupO_6, tupO_7, tupO_8, tupO_9, tupO_10, tupO_11, tupO_12, tupO_13, tupO_14, tupO_15, tupO_16, lstO_0, lstO_1, lstO_2, lstO_3, lstO_4, lstO_5, lstO_6, lstO_7, lstO_8, lstO_9, lstO_10, lstO_11, lstO_12, lstO_13, lstO_14, lstO_15, lstO_16, gInA_s2T, gInA_s2L, gInA_i2T, gIs_d, truth_b, truth_t, boolW_b, intW_i, gIxA_t, gIxA_l, gAdd_i, gLe_i, gLt_i, gGt_i, gGe_i, gMinus_i, gEqA_s, gEqA_i, gNe_i, gNe_s, gLen_t, gLen_l, atI_0, atI_1, atI_2, atI_3, cut2, Option.map_some, Option.bind_some, decide_true, decide_false, Bool.not_true, Bool.not_false, Bool.and_true, Bool.true_and, Bool.and_false, Bool.false_and, Bool.or_true, Bool.or_false, Bool.true_or, Bool.false_or, fin_d, allNew_nil, if_true, List.take_length, set_last, rest_last, Bool.bne_true, Bool.true_bne, Bool.false_bne, Bool.bne_false, turn_nx, turn_rt, turn_ct, turn_bk, eq_self, Bool.and_self, Bool.or_self, ne_yes_no, ne_yes_fails, ne_yes_shows, ne_yes_does, ne_yes_wants, ne_no_yes, ne_no_fails, ne_no_shows, ne_no_does, ne_no_wants, ne_fails_yes, ne_fails_no, ne_fails_shows, ne_fails_does, ne_fails_wants, ne_shows_yes, ne_shows_no, ne_shows_fails, ne_shows_does, ne_shows_wants, ne_does_yes, ne_does_no, ne_does_fails, ne_does_shows, ne_does_wants, ne_wants_yes, ne_wants_no, ne_wants_fails, ne_wants_shows, ne_wants_does, isT_bool_NoneType, isT_bool_bool, isT_bool_int, isT_bool_str, isT_bool_tuple, isT_bool_list, isT_bool_dict, isT_int_NoneType, isT_int_bool, isT_int_int, isT_int_str, isT_int_tuple, isT_int_list, isT_int_dict, isT_str_NoneType, isT_str_bool, isT_str_int, isT_str_str, isT_str_tuple, isT_str_list, isT_str_dict, isT_tuple_NoneType, isT_tuple_bool, isT_tuple_int, isT_tuple_str, isT_tuple_tuple, isT_tuple_list, isT_tuple_dict, isT_list_NoneType, isT_list_bool, isT_list_int, isT_list_str, isT_list_tuple, isT_list_list, isT_list_dict, isT_dict_NoneType, isT_dict_bool, isT_dict_int, isT_dict_str, isT_dict_tuple, isT_dict_list, isT_dict_dict, tyD_none, tyD_bool, tyD_int, tyD_str, tyD_tuple, tyD_list, tyD_dict, Dr_wide, Dr_cells, Dr_rest, Dr_turn, Dr_setT, Dr_setR, Dr_wideNe, gInt_i, gAbs_i, gMod_i, gDiv_i, gMul_l, gMul_r, gPow_i, endsP_rt, endsP_nx, ret_ok, seqW_l, seqW_t, take_len, take_len2, Int.reduceLT, Int.reduceLE, Int.reducePow, Int.reduceNeg, Int.reduceToNat, Int.reduceSub, Int.reduceAdd, Fo_entries, Fo_known, Fo_matches, Fo_cls, Fo_put, Fo_entry, Fo_within, Fo_match, Fo_matched, Fo_iscut, wp_parT, wp_callK, wp_raise, wp_lstF])
section
/-! ### what matches, by numbers -/
def pk (q : Nat × Nat) : PyData := .tuple [.int (q.1 : Int), .int (q.2 : Int)]
theorem pk_key : Key1 (Nat × Nat) pk := by
  refine ⟨fun a => rfl, fun a b h => ?_⟩
  obtain ⟨a1, a2⟩ := a
  obtain ⟨b1, b2⟩ := b
  simp only [pk, PyData.tuple.injEq, List.cons.injEq, PyData.int.injEq, and_true] at h
  rw [Int.ofNat.inj h.1, Int.ofNat.inj h.2]
def nL (ns : List Nat) : PyData := .list (ns.map fun (i : Nat) => .int (i : Int))
abbrev Mv : Type := Option (List Nat × List Nat)
def mvD : Mv → PyData
  | none => .none
  | some (y, n) => .tuple [nL y, nL n]
def mvW (v : Mv) : W := .d (mvD v)
abbrev Ms : Type := List ((Nat × Nat) × Mv)
variable {es : List Ey}
inductive DenL (es : List Ey) : List Nat → List Tr → Prop
  | nil : DenL es [] []
  | cons {i : Nat} {t : Tr} {is : List Nat} {ts : List Tr} (d : Den es i t) (r : DenL es is ts) : DenL es (i :: is) (t :: ts)
theorem DenL.len {is : List Nat} {ts : List Tr} (d : DenL es is ts) : is.length = ts.length := by
  induction d with
  | nil => rfl
  | cons _ _ ih => rw [List.length_cons, List.length_cons, ih]
theorem DenL.mem (nd : es.Nodup) {is : List Nat} {ts : List Tr} (d : DenL es is ts) {i : Nat} {t : Tr} (h : Den es i t) : i ∈ is ↔ t ∈ ts := by
  induction d with
  | nil => simp
  | @cons j u is ts d _ ih =>
    rw [List.mem_cons, List.mem_cons, ih]
    constructor
    · rintro (rfl | q)
      · exact .inl (h.uniq d)
      · exact .inr q
    · rintro (rfl | q)
      · exact .inl (h.inj nd d)
      · exact .inr q
theorem DenL.append {is js : List Nat} {ts us : List Tr} (d : DenL es is ts) (e : DenL es js us) : DenL es (is ++ js) (ts ++ us) := by
  induction d with
  | nil => exact e
  | cons d _ ih => exact .cons d ih
theorem DenL.filter (nd : es.Nodup) {is js : List Nat} {ts us : List Tr} (d : DenL es is ts) (e : DenL es js us) : DenL es (js.filter fun i => !decide (i ∈ is)) (us.filter fun t => !decide (t ∈ ts)) := by
  induction e with
  | nil => exact .nil
  | @cons j u js us h _ ih =>
    have q := d.mem nd h
    rw [List.filter_cons, List.filter_cons]
    by_cases z : j ∈ is
    · have z2 := q.mp z
      simpa [z, z2] using ih
    · have z2 : u ∉ ts := fun w => z (q.mpr w)
      simpa [z, z2] using DenL.cons h ih
theorem DenL.dd (nd : es.Nodup) {is js : List Nat} {ts us : List Tr} (d : DenL es is ts) (e : DenL es js us) : DenL es (is ++ js.filter fun i => !decide (i ∈ is)) (dd ts us) := d.append (d.filter nd e)
inductive MV (es : List Ey) : Option (List Tr × List Tr) → Mv → Prop
  | none : MV es none none
  | some {y n : List Tr} {ys ns : List Nat} (h1 : DenL es ys y) (h2 : DenL es ns n) : MV es (some (y, n)) (some (ys, ns))
/-- the memory is right -/
def MGood (es : List Ey) (m : Ms) : Prop := ∀ q ∈ m, ∃ C T, Den es q.1.1 C ∧ Den es q.1.2 T ∧ MV es (C.mt T) q.2
theorem lookup_mem {α β : Type} [DecidableEq α] {a : α} {b : β} : ∀ {l : List (α × β)}, l.lookup a = some b → (a, b) ∈ l
  | [], h => by cases h
  | (x, y) :: l, h => by
    rw [List.lookup_cons] at h
    by_cases e : a = x
    · subst e; simp at h; subst h; exact List.mem_cons_self
    · rw [beq_false_of_ne e] at h
      exact List.mem_cons_of_mem _ (lookup_mem h)
theorem lookup_non {α β : Type} [DecidableEq α] {a : α} : ∀ {l : List (α × β)}, (∀ q ∈ l, q.1 ≠ a) → l.lookup a = none
  | [], _ => rfl
  | (x, y) :: l, h => by
    rw [List.lookup_cons, beq_false_of_ne (Ne.symm (h _ List.mem_cons_self)), lookup_non fun q hq => h q (List.mem_cons_of_mem _ hq)]
theorem none_lookup {α β : Type} [DecidableEq α] {a : α} : ∀ {l : List (α × β)}, l.lookup a = none → ∀ q ∈ l, q.1 ≠ a
  | [], _, q, hq => by cases hq
  | (x, y) :: l, h, q, hq => by
    rw [List.lookup_cons] at h
    by_cases e : a = x
    · subst e; simp at h
    · rw [beq_false_of_ne e] at h
      rcases List.mem_cons.mp hq with rfl | hq
      · exact Ne.symm e
      · exact none_lookup h q hq
/-- ints in a list object -/
theorem flatL {is : List Nat} : ((is.map fun (i : Nat) => PyData.int (i : Int))).all flatD = true := by
  induction is with
  | nil => rfl
  | cons i is ih => simpa [flatD] using ih
theorem inD_n {i : Nat} {is : List Nat} : inD (.int (i : Int)) (is.map fun (i : Nat) => PyData.int (i : Int)) = decide (i ∈ is) := by
  unfold inD
  induction is with
  | nil => rfl
  | cons a ss ih =>
    rw [List.map_cons, List.any_cons, ih, eqv_int]
    by_cases h : a = i
    · subst h; simp
    · have : ¬ (a : Int) = (i : Int) := by omega
      simp [this, Ne.symm h]
theorem gInA_lo {os : List Ob} {n i : Nat} {is : List Nat} {neg : Bool} (h : os[n]? = some (.lst ((is.map fun (i : Nat) => PyData.int (i : Int)).map .d))) : gInA neg os (.d (.int (i : Int))) (.obj n) = some (.d (.bool (neg != decide (i ∈ is)))) := by
  have e : gDin os (.d (.int (i : Int))) (.obj n) = none := by
    show hasO os[n]? (.int (i : Int)) = none
    rw [h]
    rfl
  unfold gInA
  rw [e]
  show (inW os (.int (i : Int)) (.obj n)).map _ = _
  have e2 : inW os (.int (i : Int)) (.obj n) = some (decide (i ∈ is)) := by
    show ((itemsO os[n]?).bind datas).bind (inSeq (.int (i : Int)) false) = _
    rw [h]
    show (datas ((is.map fun (i : Nat) => PyData.int (i : Int)).map .d)).bind (inSeq (.int (i : Int)) false) = _
    rw [datas_map, Option.bind_some]
    unfold inSeq inOk
    rw [flatL, inD_n]
    simp [flatD]
  rw [e2] <;> rfl
theorem frz_lo {os : List Ob} {n : Nat} {is : List Nat} (h : os[n]? = some (.lst ((is.map fun (i : Nat) => PyData.int (i : Int)).map .d))) : frzO os[n]? = some (is.map fun (i : Nat) => PyData.int (i : Int)) := frzO_of h
end
section
variable {os : List Ob}
theorem hd2 {a b : PyData} {r : List PyData} : gSl os none (some 2) (.d (.tuple (a :: b :: r))) = some (.d (.tuple [a, b])) := by
  show some (W.d (.tuple (cutL (a :: b :: r) none (some 2)))) = _
  unfold cutL HT.sIx
  simp
theorem hd1 {a : PyData} : gSl os none (some 2) (.d (.tuple [a])) = some (.d (.tuple [a])) := by
  show some (W.d (.tuple (cutL [a] none (some 2)))) = _
  unfold cutL HT.sIx
  simp
theorem gNe_hh {h h' : Str} {k k' : Int} (a : PyData.strOk h = true) (b : PyData.strOk h' = true) : gNe os (.d (.tuple [.str h, .int k])) (.d (.tuple [.str h', .int k'])) = some (.d (.bool (!(decide (h = h') && decide (k = k'))))) := by
  unfold gNe dataW eqOk
  simp [SeqAt.shaped, PyData.canLay0, PyData.canLayAll0, PyData.depth, PyData.depthAll, a, b, PyData.eqv, PyData.eqvAll]
  by_cases e : h = h' <;> by_cases e2 : k = k' <;> simp [e, e2]
theorem gNe_h1 {h h' : Str} {k : Int} (a : PyData.strOk h = true) (b : PyData.strOk h' = true) : gNe os (.d (.tuple [.str h, .int k])) (.d (.tuple [.str h'])) = some (.d (.bool true)) := by
  unfold gNe dataW eqOk
  simp [SeqAt.shaped, PyData.canLay0, PyData.canLayAll0, PyData.depth, PyData.depthAll, a, b, PyData.eqv, PyData.eqvAll]
theorem gNe_hs {h h' w : Str} {k : Int} (a : PyData.strOk h = true) (b : PyData.strOk h' = true) (c : PyData.strOk w = true) : gNe os (.d (.tuple [.str h, .int k])) (.d (.tuple [.str h', .str w])) = some (.d (.bool true)) := by
  unfold gNe dataW eqOk
  simp [SeqAt.shaped, PyData.canLay0, PyData.canLayAll0, PyData.depth, PyData.depthAll, a, b, c, PyData.eqv, PyData.eqvAll]
variable {o0 : List Ob} {es : List Ey} {ms : List (PyData × W)} {tl more : List Ob} {l : List (Ey × Nat)}
theorem Fo_cutT : (Fg o0 es l ms (tl ++ more)).take (o0.length + 4 + tl.length) = Fg o0 es l ms tl := by
  rw [← Fo_app]
  exact List.take_left' Fo_len
theorem Fo_kT {k : Nat} : (Fg o0 es l ms (tl ++ more))[o0.length + 4 + tl.length + k]? = more[k]? := by
  unfold Fg
  rw [List.getElem?_append_right (by omega), show o0.length + 4 + tl.length + k - o0.length = tl.length + k + 1 + 1 + 1 + 1 by omega]
  simp only [List.getElem?_cons_succ]
  rw [List.getElem?_append_right (by omega), Nat.add_sub_cancel_left]
theorem Fo_setT {k : Nat} {o : Ob} : (Fg o0 es l ms (tl ++ more)).set (o0.length + 4 + tl.length + k) o = Fg o0 es l ms (tl ++ more.set k o) := by
  unfold Fg
  rw [List.set_append, if_neg (by omega), show o0.length + 4 + tl.length + k - o0.length = tl.length + k + 1 + 1 + 1 + 1 by omega]
  simp only [List.set_cons_succ]
  rw [List.set_append, if_neg (by omega), Nat.add_sub_cancel_left]
end
section
variable {o0 : List Ob} {es : List Ey}
abbrev lo (is : List Nat) : Ob := .lst ((is.map fun (i : Nat) => PyData.int (i : Int)).map .d)
def flt (ys zs : List Nat) : List Nat := zs.filter fun i => !decide (i ∈ ys)
theorem flat_flt {ys zs : List Nat} : (zs.map fun (i : Nat) => PyData.int (i : Int)).flatMap (fun x => match x with | .int k => if decide (k.toNat ∈ ys) then [] else [.int k] | _ => []) = (flt ys zs).map fun (i : Nat) => PyData.int (i : Int) := by
  unfold flt
  induction zs with
  | nil => rfl
  | cons z zs ih =>
    rw [List.map_cons, List.flatMap_cons, ih, List.filter_cons]
    by_cases e : z ∈ ys <;> simp [e]
/-- one pass over the parts -/
theorem pass {F : Fn} {Q : Fl → AS → Prop} {X : Ex → AS → Prop} {c t j j' : Nat} {mine its : PyData} {h7 h8 h9 h10 : Option W} {ys ns : List Nat} {m : Ms} {tl : List Ob} {ws : List W} {v : Mv} {m' : Ms}
    (hl : ys.length ≤ 100000) (hl2 : ns.length ≤ 100000)
    (e : F [.obj o0.length, .d (.int (j : Int)), .d (.int (j' : Int))] (Fo o0 es (asl pk mvW m) (tl ++ [lo ys, lo ns])) = some (.ok (mvW v) (Fo o0 es (asl pk mvW m') (tl ++ [lo ys, lo ns])) []))
    (k : match v with
      | none => ∀ sl, Q (.rt (.d .none)) ⟨sl, Fo o0 es (asl pk mvW m') (tl ++ [lo ys, lo ns]), []⟩
      | some (y, n) => (y.length ≤ 100000 ∧ n.length ≤ 100000) ∧ ∀ h7 h8 h9 h10, wp (forL (gTupF 2 (gConsF (gSet 7) (gConsF (gSet 8) gNilF))) (mSeq (mAsg (mMeth ("Forest" : Str) ("match" : Str) 3 F (mVar 0) (mCons (mVar 7) (mCons (mVar 8) mNil))) (gSet 9))
(mSeq (mIf (mBool (mOp2 (gIsN false) (mVar 9) (mC .none)))
(mRet (mC .none))
mNext)
(mSeq (mExpr (mEf isLst gExtend (mVar 5) (mCons (mComp (mIt (mOp2 gIxA (mVar 9) (mC (.int 0)))) (.nm 10) [10] (mBool (mOp2 (gInA true) (mVar 10) (mVar 5))) (mVar 10)) mNil)))
(mExpr (mEf isLst gExtend (mVar 6) (mCons (mComp (mIt (mOp2 gIxA (mVar 9) (mC (.int 1)))) (.nm 10) [10] (mBool (mOp2 (gInA true) (mVar 10) (mVar 6))) (mVar 10)) mNil)))))) ws) ⟨[some (.obj o0.length), some (nW c), some (nW t), some (.d mine), some (.d its), some (.obj (o0.length + 4 + tl.length)), some (.obj (o0.length + 4 + tl.length + 1)), h7, h8, h9, h10], Fo o0 es (asl pk mvW m') (tl ++ [lo (ys ++ flt ys y), lo (ns ++ flt ns n)]), []⟩ Q X) :
    wp (forL (gTupF 2 (gConsF (gSet 7) (gConsF (gSet 8) gNilF))) (mSeq (mAsg (mMeth ("Forest" : Str) ("match" : Str) 3 F (mVar 0) (mCons (mVar 7) (mCons (mVar 8) mNil))) (gSet 9))
(mSeq (mIf (mBool (mOp2 (gIsN false) (mVar 9) (mC .none)))
(mRet (mC .none))
mNext)
(mSeq (mExpr (mEf isLst gExtend (mVar 5) (mCons (mComp (mIt (mOp2 gIxA (mVar 9) (mC (.int 0)))) (.nm 10) [10] (mBool (mOp2 (gInA true) (mVar 10) (mVar 5))) (mVar 10)) mNil)))
(mExpr (mEf isLst gExtend (mVar 6) (mCons (mComp (mIt (mOp2 gIxA (mVar 9) (mC (.int 1)))) (.nm 10) [10] (mBool (mOp2 (gInA true) (mVar 10) (mVar 6))) (mVar 10)) mNil)))))) (.d (.tuple [.int (j : Int), .int (j' : Int)]) :: ws)) ⟨[some (.obj o0.length), some (nW c), some (nW t), some (.d mine), some (.d its), some (.obj (o0.length + 4 + tl.length)), some (.obj (o0.length + 4 + tl.length + 1)), h7, h8, h9, h10], Fo o0 es (asl pk mvW m) (tl ++ [lo ys, lo ns]), []⟩ Q X := by
  rw [wp_forC]
  walk_at "wg"
  rw [e]
  walk_at "wg"
  cases v with
  | none =>
    simp only [mvW, mvD, gIsN]
    walk_at "wg"
    exact k _
  | some p =>
    obtain ⟨y, n⟩ := p
    obtain ⟨⟨k1, k2⟩, k⟩ := k
    simp only [mvW, mvD, gIsN, nL]
    walk_at "wg"
    have h5 : ∀ {a b : Ob}, (Fo o0 es (asl pk mvW m') (tl ++ [a, b]))[o0.length + 4 + tl.length]? = some a := fun {a b} => Fo_kT (k := 0)
    have h6 : ∀ {a b : Ob}, (Fo o0 es (asl pk mvW m') (tl ++ [a, b]))[o0.length + 4 + tl.length + 1]? = some b := fun {a b} => Fo_kT (k := 1)
    have s5 : ∀ {a b o : Ob}, (Fo o0 es (asl pk mvW m') (tl ++ [a, b])).set (o0.length + 4 + tl.length) o = Fo o0 es (asl pk mvW m') (tl ++ [o, b]) := fun {a b o} => Fo_setT (k := 0)
    have s6 : ∀ {a b o : Ob}, (Fo o0 es (asl pk mvW m') (tl ++ [a, b])).set (o0.length + 4 + tl.length + 1) o = Fo o0 es (asl pk mvW m') (tl ++ [a, o]) := fun {a b o} => Fo_setT (k := 1)
    refine ⟨isLst_of h5, ?_⟩
    refine wp_comp_pure (fun x => match x with | .int k => if decide (k.toNat ∈ ys) then [] else [.int k] | _ => []) (y.map fun (i : Nat) => PyData.int (i : Int)) ?_
    walk_at "wg"
    rw [flat_flt]
    have f1 : (flt ys y).length ≤ 100000 := Nat.le_trans (List.length_filter_le _ _) k1
    have f2 : (flt ns n).length ≤ 100000 := Nat.le_trans (List.length_filter_le _ _) k2
    refine ⟨fun x hx => ?_, by rw [List.length_map]; unfold big; omega, ?_⟩
    · obtain ⟨i, _, rfl⟩ := List.mem_map.mp hx
      simp only [tgS, wipeS]
      walk_at "wg"
      rw [gInA_lo h5]
      walk_at "wg"
      refine ⟨fun z => ⟨_, rfl, by simpa using z⟩, fun z => by simpa using z⟩
    rw [gExt_of h5 rfl (by simp [big]; omega)]
    walk_at "wg"
    rw [s5]
    refine ⟨isLst_of h6, ?_⟩
    refine wp_comp_pure (fun x => match x with | .int k => if decide (k.toNat ∈ ns) then [] else [.int k] | _ => []) (n.map fun (i : Nat) => PyData.int (i : Int)) ?_
    walk_at "wg"
    rw [flat_flt]
    refine ⟨fun x hx => ?_, by rw [List.length_map]; unfold big; omega, ?_⟩
    · obtain ⟨i, _, rfl⟩ := List.mem_map.mp hx
      simp only [tgS, wipeS]
      walk_at "wg"
      rw [gInA_lo h6]
      walk_at "wg"
      refine ⟨fun z => ⟨_, rfl, by simpa using z⟩, fun z => by simpa using z⟩
    rw [gExt_of h6 rfl (by simp [big]; omega)]
    walk_at "wg"
    rw [s6]
    rw [← List.map_append, ← List.map_append, ← List.map_append, ← List.map_append]
    exact k _ _ _ _
end
section
local instance (priority := 10000) pairBEq : BEq (Nat × Nat) := instBEqOfDecidableEq
variable {o0 : List Ob} {es : List Ey}
/-- the memory grows, by cuts less deep -/
structure Grow (es : List Ey) (d : Nat) (m m' : Ms) (k : Nat) : Prop where
  gd : MGood es m'
  ln : m'.length ≤ m.length + k
  nw : ∀ q, m.lookup q = none → m'.lookup q ≠ none → ∃ C, Den es q.1 C ∧ C.deep < d
theorem Grow.refl {d k : Nat} {m : Ms} (g : MGood es m) : Grow es d m m k := ⟨g, by omega, fun q h z => absurd h z⟩
theorem Grow.trans {d d' k k' e j : Nat} {m m' m'' : Ms} (a : Grow es d m m' k) (b : Grow es d' m' m'' k') (h : d ≤ e) (h' : d' ≤ e) (hj : k + k' ≤ j) : Grow es e m m'' j := by
  refine ⟨b.gd, by have := a.ln; have := b.ln; omega, fun q z z' => ?_⟩
  by_cases w : m'.lookup q = none
  · obtain ⟨C, x, y⟩ := b.nw q w z'
    exact ⟨C, x, by omega⟩
  · obtain ⟨C, x, y⟩ := a.nw q z w
    exact ⟨C, x, by omega⟩
theorem Grow.mono {d k e j : Nat} {m m' : Ms} (a : Grow es d m m' k) (h : d ≤ e) (hj : k ≤ j) : Grow es e m m' j := a.trans (Grow.refl a.gd) h h (by omega : k + 0 ≤ j)
theorem DenL.nodup (nd : es.Nodup) {is : List Nat} {ts : List Tr} (d : DenL es is ts) : ts.Nodup → is.Nodup := by
  induction d with
  | nil => intro _; simp
  | @cons i t is ts h r ih =>
    intro n
    obtain ⟨n1, n2⟩ := List.nodup_cons.mp n
    exact List.nodup_cons.mpr ⟨fun z => n1 ((r.mem nd h).mp z), ih n2⟩
theorem DenL.lt {is : List Nat} {ts : List Tr} (d : DenL es is ts) : ∀ i ∈ is, i < es.length := by
  induction d with
  | nil => intro i h; cases h
  | cons h _ ih =>
    intro i hi
    rcases List.mem_cons.mp hi with rfl | hi
    · exact h.lt
    · exact ih i hi
theorem DenL.bd (nd : es.Nodup) {is : List Nat} {ts : List Tr} (d : DenL es is ts) (h : ts.Nodup) : is.length ≤ es.length := nodup_bound (d.nodup nd h) d.lt
def MatchOk (es : List Ey) (o0 : List Ob) (F : Fn) (n : Nat) : Prop := ∀ (c t : Nat) (C T : Tr) (m : Ms) (tl : List Ob), 2 * C.deep + 2 ≤ n → Den es c C → Den es t T → T.wok → MGood es m → m.length + C.all.length ≤ 500000 → ∃ v m', F [.obj o0.length, .d (.int (c : Int)), .d (.int (t : Int))] (Fo o0 es (asl pk mvW m) tl) = some (.ok (mvW v) (Fo o0 es (asl pk mvW m') tl) []) ∧ MV es (C.mt T) v ∧ Grow es (C.deep + 1) m m' C.all.length
def MatchedOk (es : List Ey) (o0 : List Ob) (F : Fn) (n : Nat) : Prop := ∀ (c t : Nat) (C T : Tr) (m : Ms) (tl : List Ob), 2 * C.deep + 1 ≤ n → Den es c C → Den es t T → T.wok → MGood es m → m.length + C.all.length ≤ 500000 → ∃ v m', F [.obj o0.length, .d (.int (c : Int)), .d (.int (t : Int))] (Fo o0 es (asl pk mvW m) tl) = some (.ok (mvW v) (Fo o0 es (asl pk mvW m') tl) []) ∧ MV es (C.mt T) v ∧ Grow es C.deep m m' (C.all.length - 1)
theorem all_pos (t : Tr) : 1 ≤ t.all.length := by cases t <;> simp [Tr.all]
theorem match_ok {n : Nat} (R : MatchedOk es o0 (F_Forest__matched n) n) : MatchOk es o0 (F_Forest_match (n + 1)) (n + 1) := by
  intro c t C T m tl hn dc dt tw mg hl
  show ∃ v m', runF 4 (b_Forest_match (F_Forest_match n) (F_Forest__matched n)) _ _ = _ ∧ _
  have hk : ∀ {m : Ms} {neg : Bool} {tl : List Ob}, gInA neg (Fo o0 es (asl pk mvW m) tl) (.d (.tuple [.int (c : Int), .int (t : Int)])) (.obj (o0.length + 3)) = some (.d (.bool ((m.lookup (c, t)).isSome != neg))) := fun {m neg tl} => has_asl (a := (c, t)) pk_key Fo_3
  have hg : ∀ {m : Ms} {tl : List Ob} {v : Mv}, m.lookup (c, t) = some v → gIxA (Fo o0 es (asl pk mvW m) tl) (.obj (o0.length + 3)) (.d (.tuple [.int (c : Int), .int (t : Int)])) = some (mvW v) := fun {m tl v} h => get_asl (a := (c, t)) pk_key Fo_3 h
  cases q : m.lookup (c, t) with
  | some v =>
    obtain ⟨C', T', d1, d2, mv⟩ := mg _ (lookup_mem q)
    have e1 := dc.uniq d1
    have e2 := dt.uniq d2
    subst e1
    subst e2
    refine ⟨v, m, run_of ?_, mv, Grow.refl mg⟩
    unfold b_Forest_match
    walk_at "wg"
    simp only [hk, q]
    walk_at "wg"
    simp only [Option.isSome_some]
    walk_at "wg"
    rw [hg q]
    simp only [mvW]
    walk_at "wg"
  | none =>
    obtain ⟨v, m1, e, mv, gr⟩ := R c t C T m tl (by omega) dc dt tw mg hl
    have hp := all_pos C
    have q1 : m1.lookup (c, t) = none := by
      cases z : m1.lookup (c, t) with
      | none => rfl
      | some w =>
        obtain ⟨C', x, y⟩ := gr.nw (c, t) q (by rw [z]; simp)
        rw [dc.uniq x] at y
        exact absurd y (Nat.lt_irrefl _)
    have q2 : (m1 ++ [((c, t), v)]).lookup (c, t) = some v := by
      rw [List.lookup_append, q1]
      simp
    have hln := gr.ln
    refine ⟨v, m1 ++ [((c, t), v)], run_of ?_, mv, ⟨?_, by rw [List.length_append, List.length_singleton]; omega, ?_⟩⟩
    · unfold b_Forest_match
      walk_at "wg"
      simp only [hk, q]
      walk_at "wg"
      simp only [Option.isSome_none]
      walk_at "wg"
      rw [e]
      simp only [mvW]
      walk_at "wg"
      have hput : stAny (Fo o0 es (asl pk mvW m1) tl) (.obj (o0.length + 3)) (.d (.tuple [.int (c : Int), .int (t : Int)])) (.d (mvD v)) = _ := put_asl (a := (c, t)) (b := v) pk_key Fo_3 (by unfold big; omega) q1 rfl
      have hput2 := hput
      rw [Fo_set3] at hput2
      rw [hput2]
      walk_at "wg"
      rw [hg q2]
      simp only [mvW]
      walk_at "wg"
      rw [Fo_take]
    · intro p hp
      rcases List.mem_append.mp hp with hp | hp
      · exact gr.gd p hp
      · rw [List.mem_singleton.mp hp]
        exact ⟨C, T, dc, dt, mv⟩
    · intro p hp z
      by_cases w : m1.lookup p = none
      · have : p = (c, t) := by
          rw [List.lookup_append, w] at z
          refine Classical.byContradiction fun ne => z ?_
          rw [List.lookup_cons, beq_false_of_ne ne]
          rfl
        subst this
        exact ⟨C, dc, Nat.lt_succ_self _⟩
      · obtain ⟨C', x, y⟩ := gr.nw p hp w
        exact ⟨C', x, by omega⟩
end
section
local instance (priority := 10000) pairBEq2 : BEq (Nat × Nat) := instBEqOfDecidableEq
variable {o0 : List Ob} {es : List Ey}
theorem Ey.at_two (e : Ey) : True := trivial
/-- what two numbers stand for, and the data of their entries -/
theorem ok_shows : PyData.strOk ("shows" : Str) = true := by decide +kernel
theorem ok_does : PyData.strOk ("does" : Str) = true := by decide +kernel
theorem ok_yes : PyData.strOk ("yes" : Str) = true := by decide +kernel
theorem ok_no : PyData.strOk ("no" : Str) = true := by decide +kernel
theorem ok_fails : PyData.strOk ("fails" : Str) = true := by decide +kernel
theorem ne_sd : (decide (("shows" : Str) = "does")) = false := by decide +kernel
theorem ne_ds : (decide (("does" : Str) = "shows")) = false := by decide +kernel
theorem mv_none {C T : Tr} (h : C.mt T = none) : MV es (C.mt T) none := by rw [h]; exact .none
theorem lo_nil : (lo [] : Ob) = .lst [] := rfl
/-- the end: both lists given back -/
theorem pass_end {c t : Nat} {mine its : PyData} {h7 h8 h9 h10 : Option W} {y n : List Nat} {m : Ms} {tl : List Ob} {r : Rs} {X : Ex → AS → Prop} (hr : r = .ok (mvW (some (y, n))) (Fo o0 es (asl pk mvW m) tl) []) : nxt (mRet (mTup (mCons (mFrz (mVar 5)) (mCons (mFrz (mVar 6)) mNil)))) (ends (o0.length + 4 + tl.length) r) X .nx ⟨[some (.obj o0.length), some (nW c), some (nW t), some (.d mine), some (.d its), some (.obj (o0.length + 4 + tl.length)), some (.obj (o0.length + 4 + tl.length + 1)), h7, h8, h9, h10], Fo o0 es (asl pk mvW m) (tl ++ [lo y, lo n]), []⟩ := by
  subst hr
  have h5 : ∀ {a b : Ob}, (Fo o0 es (asl pk mvW m) (tl ++ [a, b]))[o0.length + 4 + tl.length]? = some a := fun {a b} => Fo_kT (k := 0)
  have h6 : ∀ {a b : Ob}, (Fo o0 es (asl pk mvW m) (tl ++ [a, b]))[o0.length + 4 + tl.length + 1]? = some b := fun {a b} => Fo_kT (k := 1)
  have s5 : ∀ {a b o : Ob}, (Fo o0 es (asl pk mvW m) (tl ++ [a, b])).set (o0.length + 4 + tl.length) o = Fo o0 es (asl pk mvW m) (tl ++ [o, b]) := fun {a b o} => Fo_setT (k := 0)
  have s6 : ∀ {a b o : Ob}, (Fo o0 es (asl pk mvW m) (tl ++ [a, b])).set (o0.length + 4 + tl.length + 1) o = Fo o0 es (asl pk mvW m) (tl ++ [a, o]) := fun {a b o} => Fo_setT (k := 1)
  walk_at "wg"
  rw [frz_lo h5]
  walk_at "wg"
  rw [s5, frz_lo h6]
  walk_at "wg"
  rw [s6, Fo_cutT]
  rfl
theorem matched_ok {n : Nat} (g : Gd es) (hl0 : es.length ≤ 50000) (R : MatchOk es o0 (F_Forest_match n) n) : MatchedOk es o0 (F_Forest__matched (n + 1)) (n + 1) := by
  intro c t C T m tl hn dc dt tw mg hl
  show ∃ v m', runF 11 (b_Forest__matched (F_Forest_match n) (F_Forest__matched n)) _ _ = _ ∧ _
  have c0 : (decide ((c : Int) = 0) = true) ↔ C = .yes := by
    rw [decide_eq_true_iff]
    constructor
    · intro h
      have : c = 0 := by omega
      subst this
      exact dc.uniq (.yes g.y)
    · rintro rfl
      have := dc.inj g.nd (.yes g.y)
      omega
  have c1 : (decide ((c : Int) = 1) = true) ↔ C = .no := by
    rw [decide_eq_true_iff]
    constructor
    · intro h
      have : c = 1 := by omega
      subst this
      exact dc.uniq (.no g.n)
    · rintro rfl
      have := dc.inj g.nd (.no g.n)
      omega
  cases dc with
  | yes h =>
    refine ⟨some ([t], []), m, run_of ?_, .some (.cons dt .nil) .nil, Grow.refl mg⟩
    have e0 : decide ((c : Int) = 0) = true := c0.mpr rfl
    unfold b_Forest__matched
    walk_at "wg"
    simp only [k_YES, k_NO]
    walk_at "wg"
    simp only [e0]
    walk_at "wg"
    try simp only [e0]
    try walk_at "wg"
    rfl
  | no h =>
    refine ⟨some ([], [t]), m, run_of ?_, .some .nil (.cons dt .nil), Grow.refl mg⟩
    have e0 : decide ((c : Int) = 0) = false := Bool.eq_false_iff.mpr fun z => nomatch c0.mp z
    have e1 : decide ((c : Int) = 1) = true := c1.mpr rfl
    unfold b_Forest__matched
    walk_at "wg"
    simp only [k_YES, k_NO]
    walk_at "wg"
    simp only [e0, e1]
    walk_at "wg"
    try simp only [e0]
    try walk_at "wg"
    rfl
  | @fails _ w h =>
    have e0 : decide ((c : Int) = 0) = false := Bool.eq_false_iff.mpr fun z => nomatch c0.mp z
    have e1 : decide ((c : Int) = 1) = false := Bool.eq_false_iff.mpr fun z => nomatch c1.mp z
    obtain ⟨f, hf⟩ : ∃ f, es[t]? = some f := ⟨_, List.getElem?_eq_getElem dt.lt⟩
    by_cases q : c = t
    · subst q
      refine ⟨some ([], []), m, run_of ?_, ?_, Grow.refl mg⟩
      · unfold b_Forest__matched
        walk_at "wg"
        simp only [k_YES, k_NO]
        walk_at "wg"
        simp only [e0, e1]
        walk_at "wg"
        simp only [Fo_ent h, Ey.dt]
        walk_at "wg"
        rfl
      · have := dt.uniq (.fails h)
        subst this
        unfold Tr.mt
        rw [if_pos rfl]
        exact .some .nil .nil
    · have e2 : decide ((c : Int) = (t : Int)) = false := decide_eq_false fun z => q (by omega)
      refine ⟨none, m, run_of ?_, ?_, Grow.refl mg⟩
      · unfold b_Forest__matched
        walk_at "wg"
        simp only [k_YES, k_NO]
        walk_at "wg"
        simp only [e0, e1]
        walk_at "wg"
        simp only [Fo_ent h, Fo_ent hf, Ey.dt]
        walk_at "wg"
        simp only [e2]
        walk_at "wg"
        rfl
      · refine mv_none ?_
        unfold Tr.mt
        refine if_neg fun z => q ?_
        subst z
        exact (Den.fails h).inj g.nd dt
  | @shows _ j k C h a =>
    have e0 : decide ((c : Int) = 0) = false := Bool.eq_false_iff.mpr fun z => nomatch c0.mp z
    have e1 : decide ((c : Int) = 1) = false := Bool.eq_false_iff.mpr fun z => nomatch c1.mp z
    have far : ∀ {f : Ey} {x : PyData}, es[t]? = some f → gSl (Fo o0 es (asl pk mvW m) tl) none (some 2) (.d f.dt) = some (.d x) → gNe (Fo o0 es (asl pk mvW m) tl) (.d (.tuple [.str "shows", .int k])) (.d x) = some (.d (.bool true)) → (Tr.shows k C).mt T = none → ∃ v m', runF 11 (b_Forest__matched (F_Forest_match n) (F_Forest__matched n)) [.obj o0.length, .d (.int (c : Int)), .d (.int (t : Int))] (Fo o0 es (asl pk mvW m) tl) = some (.ok (mvW v) (Fo o0 es (asl pk mvW m') tl) []) ∧ MV es ((Tr.shows k C).mt T) v ∧ Grow es (Tr.shows k C).deep m m' ((Tr.shows k C).all.length - 1) := by
      intro f x hf hs hx hm
      refine ⟨none, m, run_of ?_, mv_none hm, Grow.refl mg⟩
      unfold b_Forest__matched
      walk_at "wg"
      simp only [k_YES, k_NO]
      walk_at "wg"
      simp only [e0, e1]
      walk_at "wg"
      simp only [Fo_ent h, Fo_ent hf]
      simp only [show (Ey.shows k j).dt = PyData.tuple [.str "shows", .int k, .int (j : Int)] from rfl]
      walk_at "wg"
      simp only [hd2, hs]
      walk_at "wg"
      simp only [hx]
      walk_at "wg"
      rfl
    cases dt with
    | yes hf => exact far hf hd1 (gNe_h1 ok_shows ok_yes) rfl
    | no hf => exact far hf hd1 (gNe_h1 ok_shows ok_no) rfl
    | fails hf => exact far hf hd2 (gNe_hs ok_shows ok_fails tw) rfl
    | does hf a2 b2 => exact far hf hd2 (by rw [gNe_hh ok_shows ok_does, ne_sd] <;> rfl) rfl
    | @shows _ j' k' T hf a2 =>
      by_cases q : k = k'
      · subst q
        obtain ⟨v1, m1, e, mv, gr⟩ := R j j' C T m (tl ++ [lo [], lo []]) (by simp only [Tr.deep] at hn; omega) a a2 tw mg (by simp only [Tr.all, List.length_cons] at hl; omega)
        have gr2 : Grow es (Tr.shows k C).deep m m1 ((Tr.shows k C).all.length - 1) := gr.mono (by simp [Tr.deep]) (by simp [Tr.all])
        have em : (Tr.shows k C).mt (.shows k T) = C.mt T := if_pos rfl
        rw [em]
        refine ⟨v1, m1, run_of ?_, mv, gr2⟩
        unfold b_Forest__matched
        walk_at "wg"
        simp only [k_YES, k_NO]
        walk_at "wg"
        simp only [e0, e1]
        walk_at "wg"
        simp only [Fo_ent h, Fo_ent hf]
        simp only [show ∀ j, (Ey.shows k j).dt = PyData.tuple [.str "shows", .int k, .int (j : Int)] from fun _ => rfl]
        walk_at "wg"
        simp only [hd2]
        walk_at "wg"
        simp only [gNe_hh ok_shows ok_shows]
        walk_at "wg"
        refine ⟨by decide, by decide, by decide, ?_⟩
        simp only [Fo_app, Fo_len, List.append_assoc, List.length_append, ← Nat.add_assoc]
        walk_at "wg"
        simp only [zipF, pairsZ]
        walk_at "wg"
        refine pass (v := v1) (m' := m1) (ys := []) (ns := []) (by simp) (by simp) e ?_
        revert mv
        generalize hCT : C.mt T = CT
        intro mv
        cases mv with
        | none =>
          intro sl
          walk_at "wg"
          rw [Fo_cutT]
          rfl
        | @some Y N y n' h1 h2 =>
          obtain ⟨nd1, nd2⟩ := mt_nodup C T hCT
          have b1 := h1.bd g.nd nd1
          have b2 := h2.bd g.nd nd2
          refine ⟨⟨by omega, by omega⟩, fun h7 h8 h9 h10 => ?_⟩
          rw [wp_forN]
          have en : ∀ z : List Nat, [] ++ flt [] z = z := fun z => by simp [flt]
          rw [en, en]
          exact pass_end rfl
      · exact far hf hd2 (by rw [gNe_hh ok_shows ok_shows, decide_eq_false q] <;> simp) (if_neg q)
  | @does _ j j2 k C D h a b =>
    have e0 : decide ((c : Int) = 0) = false := Bool.eq_false_iff.mpr fun z => nomatch c0.mp z
    have e1 : decide ((c : Int) = 1) = false := Bool.eq_false_iff.mpr fun z => nomatch c1.mp z
    have far : ∀ {f : Ey} {x : PyData}, es[t]? = some f → gSl (Fo o0 es (asl pk mvW m) tl) none (some 2) (.d f.dt) = some (.d x) → gNe (Fo o0 es (asl pk mvW m) tl) (.d (.tuple [.str "does", .int k])) (.d x) = some (.d (.bool true)) → (Tr.does k C D).mt T = none → ∃ v m', runF 11 (b_Forest__matched (F_Forest_match n) (F_Forest__matched n)) [.obj o0.length, .d (.int (c : Int)), .d (.int (t : Int))] (Fo o0 es (asl pk mvW m) tl) = some (.ok (mvW v) (Fo o0 es (asl pk mvW m') tl) []) ∧ MV es ((Tr.does k C D).mt T) v ∧ Grow es (Tr.does k C D).deep m m' ((Tr.does k C D).all.length - 1) := by
      intro f x hf hs hx hm
      refine ⟨none, m, run_of ?_, mv_none hm, Grow.refl mg⟩
      unfold b_Forest__matched
      walk_at "wg"
      simp only [k_YES, k_NO]
      walk_at "wg"
      simp only [e0, e1]
      walk_at "wg"
      simp only [Fo_ent h, Fo_ent hf]
      simp only [show (Ey.does k j j2).dt = PyData.tuple [.str "does", .int k, .int (j : Int), .int (j2 : Int)] from rfl]
      walk_at "wg"
      simp only [hd2, hs]
      walk_at "wg"
      simp only [hx]
      walk_at "wg"
      rfl
    cases dt with
    | yes hf => exact far hf hd1 (gNe_h1 ok_does ok_yes) rfl
    | no hf => exact far hf hd1 (gNe_h1 ok_does ok_no) rfl
    | fails hf => exact far hf hd2 (gNe_hs ok_does ok_fails tw) rfl
    | shows hf a2 => exact far hf hd2 (by rw [gNe_hh ok_does ok_shows, ne_ds] <;> rfl) rfl
    | @does _ j' j2' k' T U hf a2 bd2 =>
      by_cases q : k = k'
      · subst q
        simp only [Tr.deep] at hn
        simp only [Tr.all, List.length_cons, List.length_append] at hl
        obtain ⟨v1, m1, e, mv, gr⟩ := R j j' C T m (tl ++ [lo [], lo []]) (by omega) a a2 tw.1 mg (by omega)
        have en : ∀ z : List Nat, [] ++ flt [] z = z := fun z => by simp [flt]
        have start : ∀ {r : Rs}, (wp (forL (gTupF 2 (gConsF (gSet 7) (gConsF (gSet 8) gNilF))) (mSeq (mAsg (mMeth ("Forest" : Str) ("match" : Str) 3 (F_Forest_match n) (mVar 0) (mCons (mVar 7) (mCons (mVar 8) mNil))) (gSet 9))
(mSeq (mIf (mBool (mOp2 (gIsN false) (mVar 9) (mC .none)))
(mRet (mC .none))
mNext)
(mSeq (mExpr (mEf isLst gExtend (mVar 5) (mCons (mComp (mIt (mOp2 gIxA (mVar 9) (mC (.int 0)))) (.nm 10) [10] (mBool (mOp2 (gInA true) (mVar 10) (mVar 5))) (mVar 10)) mNil)))
(mExpr (mEf isLst gExtend (mVar 6) (mCons (mComp (mIt (mOp2 gIxA (mVar 9) (mC (.int 1)))) (.nm 10) [10] (mBool (mOp2 (gInA true) (mVar 10) (mVar 6))) (mVar 10)) mNil)))))) [.d (.tuple [.int (j : Int), .int (j' : Int)]), .d (.tuple [.int (j2 : Int), .int (j2' : Int)])]) ⟨[some (.obj o0.length), some (nW c), some (nW t), some (.d (Ey.does k j j2).dt), some (.d (Ey.does k j' j2').dt), some (.obj (o0.length + 4 + tl.length)), some (.obj (o0.length + 4 + tl.length + 1)), none, none, none, none], Fo o0 es (asl pk mvW m) (tl ++ [lo [], lo []]), []⟩ (nxt (mRet (mTup (mCons (mFrz (mVar 5)) (mCons (mFrz (mVar 6)) mNil)))) (ends (o0.length + 4 + tl.length) r) fun e s => finX (o0.length + 4 + tl.length) e s = r) (fun e s => finX (o0.length + 4 + tl.length) e s = r)) → runF 11 (b_Forest__matched (F_Forest_match n) (F_Forest__matched n)) [.obj o0.length, .d (.int (c : Int)), .d (.int (t : Int))] (Fo o0 es (asl pk mvW m) tl) = some r := by
          intro r hr
          refine run_of ?_
          unfold b_Forest__matched
          walk_at "wg"
          simp only [k_YES, k_NO]
          walk_at "wg"
          simp only [e0, e1]
          walk_at "wg"
          simp only [Fo_ent h, Fo_ent hf]
          simp only [show ∀ j j2, (Ey.does k j j2).dt = PyData.tuple [.str "does", .int k, .int (j : Int), .int (j2 : Int)] from fun _ _ => rfl]
          walk_at "wg"
          simp only [hd2]
          walk_at "wg"
          simp only [gNe_hh ok_does ok_does]
          walk_at "wg"
          refine ⟨by decide, by decide, by decide, ?_⟩
          simp only [Fo_app, Fo_len, List.append_assoc, List.length_append, ← Nat.add_assoc]
          walk_at "wg"
          simp only [zipF, pairsZ]
          walk_at "wg"
          exact hr
        revert mv
        generalize hCT : C.mt T = CT
        intro mv
        cases mv with
        | none =>
          have em : (Tr.does k C D).mt (.does k T U) = none := by
            unfold Tr.mt
            rw [if_pos rfl, hCT]
          refine ⟨none, m1, start ?_, mv_none em, gr.mono (by simp only [Tr.deep]; omega) (by simp only [Tr.all, List.length_cons, List.length_append]; omega)⟩
          refine pass (v := none) (m' := m1) (ys := []) (ns := []) (by simp) (by simp) e ?_
          intro sl
          walk_at "wg"
          rw [Fo_cutT]
          rfl
        | @some Y N y n' h1 h2 =>
          obtain ⟨nd1, nd2⟩ := mt_nodup C T hCT
          have b1 := h1.bd g.nd nd1
          have b2 := h2.bd g.nd nd2
          have hln := gr.ln
          obtain ⟨v2, m2, e2, mv2, gr2⟩ := R j2 j2' D U m1 (tl ++ [lo y, lo n']) (by omega) b bd2 tw.2 gr.gd (by omega)
          have gr3 : Grow es (Tr.does k C D).deep m m2 ((Tr.does k C D).all.length - 1) := gr.trans gr2 (by simp only [Tr.deep]; omega) (by simp only [Tr.deep]; omega) (by simp only [Tr.all, List.length_cons, List.length_append]; omega)
          revert mv2
          generalize hDU : D.mt U = DU
          intro mv2
          cases mv2 with
          | none =>
            have em : (Tr.does k C D).mt (.does k T U) = none := by
              unfold Tr.mt
              rw [if_pos rfl, hCT]
              dsimp only
              rw [hDU]
            refine ⟨none, m2, start ?_, mv_none em, gr3⟩
            refine pass (v := some (y, n')) (m' := m1) (ys := []) (ns := []) (by simp) (by simp) e ?_
            refine ⟨⟨by omega, by omega⟩, fun h7 h8 h9 h10 => ?_⟩
            rw [en, en]
            refine pass (v := none) (m' := m2) (by omega) (by omega) e2 ?_
            intro sl
            walk_at "wg"
            rw [Fo_cutT]
            rfl
          | @some Y2 N2 y2 n2 h3 h4 =>
            obtain ⟨nd3, nd4⟩ := mt_nodup D U hDU
            have b3 := h3.bd g.nd nd3
            have b4 := h4.bd g.nd nd4
            have em : (Tr.does k C D).mt (.does k T U) = some (dd Y Y2, dd N N2) := by
              unfold Tr.mt
              rw [if_pos rfl, hCT]
              dsimp only
              rw [hDU]
            refine ⟨some (y ++ flt y y2, n' ++ flt n' n2), m2, start ?_, by rw [em]; exact .some (h1.dd g.nd h3) (h2.dd g.nd h4), gr3⟩
            refine pass (v := some (y, n')) (m' := m1) (ys := []) (ns := []) (by simp) (by simp) e ?_
            refine ⟨⟨by omega, by omega⟩, fun h7 h8 h9 h10 => ?_⟩
            rw [en, en]
            refine pass (v := some (y2, n2)) (m' := m2) (by omega) (by omega) e2 ?_
            refine ⟨⟨by omega, by omega⟩, fun h7 h8 h9 h10 => ?_⟩
            rw [wp_forN]
            exact pass_end rfl
      · exact far hf hd2 (by rw [gNe_hh ok_does ok_does, decide_eq_false q] <;> simp) (if_neg q)
theorem both_ok (g : Gd es) (hl0 : es.length ≤ 50000) : ∀ n, MatchOk es o0 (F_Forest_match n) n ∧ MatchedOk es o0 (F_Forest__matched n) n
  | 0 => ⟨fun c t C T m tl hn => absurd hn (by omega), fun c t C T m tl hn => absurd hn (by omega)⟩
  | n + 1 => ⟨match_ok (both_ok g hl0 n).2, matched_ok g hl0 (both_ok g hl0 n).1⟩
end
section
local instance (priority := 10000) pairBEq3 : BEq (Nat × Nat) := instBEqOfDecidableEq
variable {o0 : List Ob} {es : List Ey}
theorem wok_all : ∀ (t : Tr), t.wok → ∀ u ∈ t.all, u.wok
  | .yes, h, u, hu => by simp [Tr.all] at hu; subst hu; exact h
  | .no, h, u, hu => by simp [Tr.all] at hu; subst hu; exact h
  | .fails w, h, u, hu => by simp [Tr.all] at hu; subst hu; exact h
  | .shows i t, h, u, hu => by
    simp only [Tr.all, List.mem_cons] at hu
    rcases hu with rfl | hu
    · exact h
    · exact wok_all t h u hu
  | .does i a b, h, u, hu => by
    simp only [Tr.all, List.mem_cons, List.mem_append] at hu
    rcases hu with rfl | hu | hu
    · exact h
    · exact wok_all a h.1 u hu
    · exact wok_all b h.2 u hu
theorem mt_cut (C T : Tr) : (T.all.any fun u => mtOk C u) = cutOf C T := by
  unfold cutOf
  congr 1
  funext u
  exact mtOk_bec C u
theorem F_fcut_eq (g : Gd es) (hl : es.length ≤ 50000) {c t : Nat} {C T : Tr} (dc : Den es c C) (dt : Den es t T) (tw : T.wok) (hd : C.deep ≤ 14) (hb : (es.length + 1) * C.all.length ≤ 400000) : ∃ m, F_Forest_is_cut [.obj o0.length, .d (.int (c : Int)), .d (.int (t : Int))] (Fo o0 es [] []) = some (.ok (.d (.bool (cutOf C T))) (Fo o0 es (asl pk mvW m) []) []) := by
  obtain ⟨ns, ew, hn, h1, h2⟩ := F_within_eq (o0 := o0) (ms := []) g hl dt
  have goal : Tells F_Forest_is_cut [.obj o0.length, .d (.int (c : Int)), .d (.int (t : Int))] (Fo o0 es [] []) fun x os' => x = .bool (cutOf C T) ∧ ∃ m, os' = Fo o0 es (asl pk mvW m) [] := by
    refine Tells.run ?_
    unfold b_Forest_is_cut
    walk_at "wg"
    rw [ew]
    walk_at "wg"
    refine wp_forI (fun ws s => ∃ (rest : List Nat) (m : Ms) (h3 h4 : Option W), ws = rest.map nW ∧ s = ⟨[some (.obj o0.length), some (.d (.int (c : Int))), some (.d (.int (t : Int))), h3, h4], Fo o0 es (asl pk mvW m) [], []⟩ ∧ MGood es m ∧ m.length + (rest.length + 1) * C.all.length ≤ 400000 ∧ (∀ i ∈ rest, ∃ u, Den es i u ∧ u ∈ T.all) ∧ ∀ u ∈ T.all, mtOk C u = true → ∃ i ∈ rest, Den es i u) ?_ ?_ ?_
    · refine ⟨ns, [], none, none, by simp [nW], rfl, fun q hq => (by cases hq), ?_, h1, fun u hu _ => h2 u hu⟩
      have := Nat.mul_le_mul_right C.all.length (show ns.length + 1 ≤ es.length + 1 by omega)
      simp only [List.length_nil]
      omega
    · rintro w ws s ⟨rest, m, h3, h4, e, rfl, mg, hm, k1, k2⟩
      cases rest with
      | nil => cases e
      | cons i rest =>
        rw [List.map_cons, List.cons.injEq] at e
        obtain ⟨rfl, rfl⟩ := e
        obtain ⟨u, du, hu⟩ := k1 i List.mem_cons_self
        rw [List.length_cons, Nat.succ_mul] at hm
        have hp := all_pos C
        obtain ⟨v, m', e, mv, gr⟩ := (both_ok (o0 := o0) g hl 30).1 c i C u m [] (by omega) dc du (wok_all T tw u hu) mg (by omega)
        simp only [nW]
        walk_at "wg"
        rw [e]
        walk_at "wg"
        have hln := gr.ln
        have stay : mtOk C u = false → ∀ h3 h4, ∃ (rest' : List Nat) (m2 : Ms) (h3' h4' : Option W), rest.map nW = rest'.map nW ∧ (⟨[some (.obj o0.length), some (.d (.int (c : Int))), some (.d (.int (t : Int))), h3, h4], Fo o0 es (asl pk mvW m') [], []⟩ : AS) = ⟨[some (.obj o0.length), some (.d (.int (c : Int))), some (.d (.int (t : Int))), h3', h4'], Fo o0 es (asl pk mvW m2) [], []⟩ ∧ MGood es m2 ∧ m2.length + (rest'.length + 1) * C.all.length ≤ 400000 ∧ (∀ i ∈ rest', ∃ u, Den es i u ∧ u ∈ T.all) ∧ ∀ u ∈ T.all, mtOk C u = true → ∃ i ∈ rest', Den es i u := by
          intro hmt h3 h4
          refine ⟨rest, m', h3, h4, rfl, rfl, gr.gd, ?_, fun j hj => k1 j (List.mem_cons_of_mem _ hj), fun u' hu' hm' => ?_⟩
          · omega
          · obtain ⟨j, hj, dj⟩ := k2 u' hu' hm'
            rcases List.mem_cons.mp hj with rfl | hj
            · rw [dj.uniq du] at hm'
              rw [hm'] at hmt
              cases hmt
            · exact ⟨j, hj, dj⟩
        revert mv
        generalize hCT : C.mt u = CT
        intro mv
        cases mv with
        | none =>
          simp only [mvW, mvD, gIsN]
          walk_at "wg"
          exact stay (by unfold mtOk; rw [hCT]) _ _
        | @some Y N y n' q1 q2 =>
          simp only [mvW, mvD, gIsN, nL]
          walk_at "wg"
          rw [List.length_map, List.length_map, q1.len, q2.len]
          have hval : mtOk C u = (decide (Y.length ≤ 1) && decide (N.length ≤ 1)) := by unfold mtOk; rw [hCT]
          have yes : mtOk C u = true → cutOf C T = true := fun z => by
            rw [← mt_cut]
            exact List.any_eq_true.mpr ⟨u, hu, z⟩
          by_cases z1 : Y.length ≤ 1
          · by_cases z2 : N.length ≤ 1
            · have a1 : decide ((Y.length : Int) ≤ 1) = true := decide_eq_true (by omega)
              have a2 : decide ((N.length : Int) ≤ 1) = true := decide_eq_true (by omega)
              simp only [a1, a2]
              walk_at "wg"
              rw [yes (by rw [hval]; simp [z1, z2])]
              exact ⟨rfl, m', Fo_take⟩
            · have a1 : decide ((Y.length : Int) ≤ 1) = true := decide_eq_true (by omega)
              have a2 : decide ((N.length : Int) ≤ 1) = false := decide_eq_false (by omega)
              simp only [a1, a2]
              walk_at "wg"
              exact stay (by rw [hval]; simp [z2]) _ _
          · have a1 : decide ((Y.length : Int) ≤ 1) = false := decide_eq_false (by omega)
            simp only [a1]
            walk_at "wg"
            exact stay (by rw [hval]; simp [z1]) _ _
    · rintro s ⟨rest, m, h3, h4, e, rfl, mg, hm, k1, k2⟩
      cases rest with
      | cons i rest => cases e
      | nil =>
        walk_at "wg"
        have no : cutOf C T = false := by
          rw [← mt_cut]
          refine Bool.eq_false_iff.mpr fun z => ?_
          obtain ⟨u, hu, z⟩ := List.any_eq_true.mp z
          obtain ⟨i, hi, _⟩ := k2 u hu z
          cases hi
        rw [no]
        exact ⟨rfl, m, Fo_take⟩
  obtain ⟨r, e, p⟩ := goal
  cases r with
  | ok w os' es => cases w with
    | d y =>
      obtain ⟨rfl, rfl, m, rfl⟩ := p
      exact ⟨m, e⟩
    | _ => exact p.elim
  | _ => exact p.elim
end
section
variable {o0 : List Ob} {os : List Ob}
theorem at0 {x : Ob} {tl : List Ob} : (o0 ++ (x :: tl))[o0.length]? = some x := by simp
theorem set0 {x y : Ob} {tl : List Ob} : (o0 ++ (x :: tl)).set o0.length y = o0 ++ (y :: tl) := by simp
theorem stF {c f : Str} {w : W} {fs : List (Str × W)} (h : fs.length < 1000) : stFldO c f w (some (.ins c fs)) = some (putW f w fs) := if_pos ⟨rfl, h⟩
theorem putW_1 {a : W} : putW "entries" a [] = [(("entries" : Str), a)] := rfl
theorem putW_2 {a b : W} : putW "known" b [(("entries" : Str), a)] = [(("entries" : Str), a), ("known", b)] := rfl
theorem putW_3 {a b c : W} : putW "endings" c [(("entries" : Str), a), ("known", b)] = [(("entries" : Str), a), ("known", b), ("endings", c)] := rfl
theorem putW_4 {a b c d : W} : putW "matches" d [(("entries" : Str), a), ("known", b), ("endings", c)] = [(("entries" : Str), a), ("known", b), ("endings", c), ("matches", d)] := rfl
theorem build_yn : build true [(.d (.tuple [.str "yes"]), .d (.int 0)), (.d (.tuple [.str "no"]), .d (.int 1))] = some (.dcn (asl Ey.dt nW (asc 0 [.yes, .no]))) := by
  rfl
theorem F_init_eq : F_Forest___init__ [.obj o0.length] (o0 ++ [.ins "Forest" []]) = some (.ok (.d .none) (Fo o0 [.yes, .no] [] []) [o0.length, o0.length, o0.length]) := by
  refine run_of ?_
  unfold b_Forest___init__
  walk_at "wg"
  refine ⟨by decide, ?_⟩
  simp only [List.append_assoc, List.cons_append, List.nil_append, at0, set0]
  rw [stF (by decide)]
  walk_at "wg"
  refine wp_disp ?_
  simp only [wp_pairs0, wp_pairs1]
  walk_at "wg"
  simp only [k_YES, k_NO, at0, set0, List.append_assoc, List.cons_append, List.nil_append]
  rw [build_yn]
  walk_at "wg"
  rw [stF (by rw [putW_1]; simp)]
  walk_at "wg"
  rw [stF (by rw [putW_1, putW_2]; simp)]
  walk_at "wg"
  rw [stF (by rw [putW_1, putW_2, putW_3]; simp)]
  walk_at "wg"
  rw [putW_1, putW_2, putW_3, putW_4]
  simp only [List.length_append, List.length_cons, List.length_nil]
  rw [if_neg (by simp [allNew, esOf])]
  unfold Fo Fg insF
  simp [esOf, Ey.dt, nW]

theorem F_needparts_ok {x : PyData} (h : isBelow 5 x = true) : F_need_parts [.d x] os = some (.ok (.d .none) os []) := by
  refine run_of ?_
  unfold b_need_parts
  walk_at "wg"
  simp only [k_MOST_PARTS]
  walk_at "wg"
  have e := F_is_below_eq (x := x) (m := 5) (os := os)
  rw [h] at e
  rw [e]
  walk_at "wg"
theorem F_needparts_no {x : PyData} (h : isBelow 5 x = false) : F_need_parts [.d x] os = some (.ex ⟨"BadParts", []⟩ os []) := by
  refine run_of ?_
  unfold b_need_parts
  walk_at "wg"
  simp only [k_MOST_PARTS]
  walk_at "wg"
  have e := F_is_below_eq (x := x) (m := 5) (os := os)
  rw [h] at e
  rw [e]
  walk_at "wg"
  exact ⟨by decide, by rw [finX_e, allNew_nil, if_pos rfl, List.take_length]⟩
theorem F_needtree_p {x y : PyData} (h : isBelow 5 x = false) : F_need_tree [.d x, .d y] os = some (.ex ⟨"BadParts", []⟩ os []) := by
  refine run_of ?_
  unfold b_need_tree
  walk_at "wg"
  rw [F_needparts_no h]
  walk_at "wg"
  rw [finX_e, allNew_nil, if_pos rfl, List.take_length]
theorem F_needtree_t {p : Int} {y : PyData} (h : isBelow 5 (.int p) = true) (hy : sz y ≤ big) (ht : isTr p y = false) : F_need_tree [.d (.int p), .d y] os = some (.ex ⟨"BadTree", []⟩ os []) := by
  refine run_of ?_
  unfold b_need_tree
  walk_at "wg"
  rw [F_needparts_ok h]
  walk_at "wg"
  rw [F_tree_over_eq hy, ht]
  walk_at "wg"
  exact ⟨by decide, by rw [finX_e, allNew_nil, if_pos rfl, List.take_length]⟩
theorem F_needtree_ok {p : Int} {y : PyData} (h : isBelow 5 (.int p) = true) (hy : sz y ≤ big) (ht : isTr p y = true) : F_need_tree [.d (.int p), .d y] os = some (.ok (.d .none) os []) := by
  refine run_of ?_
  unfold b_need_tree
  walk_at "wg"
  rw [F_needparts_ok h]
  walk_at "wg"
  rw [F_tree_over_eq hy, ht]
  walk_at "wg"
theorem F_cut_p {x y z : PyData} (h : isBelow 5 x = false) : F_is_cut [.d x, .d y, .d z] os = some (.ex ⟨"BadParts", []⟩ os []) := by
  refine run_of ?_
  unfold b_is_cut
  walk_at "wg"
  rw [F_needtree_p h]
  walk_at "wg"
  rw [finX_e, allNew_nil, if_pos rfl, List.take_length]
theorem F_cut_t {p : Int} {y z : PyData} (h : isBelow 5 (.int p) = true) (hy : sz y ≤ big) (ht : isTr p y = false) : F_is_cut [.d (.int p), .d y, .d z] os = some (.ex ⟨"BadTree", []⟩ os []) := by
  refine run_of ?_
  unfold b_is_cut
  walk_at "wg"
  rw [F_needtree_t h hy ht]
  walk_at "wg"
  rw [finX_e, allNew_nil, if_pos rfl, List.take_length]
theorem F_cut_no {p : Int} {y z : PyData} (h : isBelow 5 (.int p) = true) (hy : sz y ≤ big) (ht : isTr p y = true) (hz : sz z ≤ big) (hc : isTr p z = false) : F_is_cut [.d (.int p), .d y, .d z] os = some (.ok (.d (.bool false)) os []) := by
  refine run_of ?_
  unfold b_is_cut
  walk_at "wg"
  rw [F_needtree_ok h hy ht]
  walk_at "wg"
  rw [F_tree_over_eq hz, hc]
  walk_at "wg"
theorem gd0 : Gd [.yes, .no] := by
  refine ⟨by decide, rfl, rfl, fun i hi => ?_⟩
  match i, hi with
  | 0, _ => exact ⟨.yes, .yes rfl⟩
  | 1, _ => exact ⟨.no, .no rfl⟩
theorem F_cut_eq {p : Int} {t c : Tr} (h : isBelow 5 (.int p) = true) (ht : t.ok p = true) (hc : c.ok p = true) (h1 : sz t.dt ≤ big) (h2 : sz c.dt ≤ big) (d1 : t.deep ≤ 10) (d2 : c.deep ≤ 10) (hb : (3 + t.all.length + c.all.length) * c.all.length ≤ 400000) (ha : t.all.length + c.all.length ≤ 40000) : F_is_cut [.d (.int p), .d t.dt, .d c.dt] os = some (.ok (.d (.bool (cutOf c t))) os []) := by
  obtain ⟨i, es1, e1, g1, p1, dn1, l1⟩ := F_put_eq (o0 := os) (ms := []) (tl := []) 30 c [.yes, .no] (by omega) gd0 (by simp only [List.length_cons, List.length_nil]; omega)
  simp only [List.length_cons, List.length_nil] at l1
  obtain ⟨j, es2, e2, g2, p2, dn2, l2⟩ := F_put_eq (o0 := os) (ms := []) (tl := []) 30 t es1 (by omega) g1 (by omega)
  obtain ⟨m, e3⟩ := F_fcut_eq (o0 := os) g2 (by omega) (dn1.mono p2) dn2 (t.wok_ok ht) (by omega) (Nat.le_trans (Nat.mul_le_mul_right _ (show es2.length + 1 ≤ 3 + t.all.length + c.all.length by omega)) hb)
  refine run_of ?_
  unfold b_is_cut
  walk_at "wg"
  rw [F_needtree_ok h h1 (by rw [Tr.isTr, ht])]
  walk_at "wg"
  rw [F_tree_over_eq h2, Tr.isTr, hc]
  walk_at "wg"
  rw [F_init_eq]
  walk_at "wg"
  rw [e1]
  walk_at "wg"
  rw [e2]
  walk_at "wg"
  rw [e3]
  walk_at "wg"
  have hT : List.take os.length (Fo os es2 (asl pk mvW m) []) = os := by
    unfold Fo Fg
    exact List.take_left' rfl
  rw [hT, if_pos (by simp [allNew])]
end
section
theorem tr_all_ok {p : Int} : ∀ (t : Tr), t.ok p = true → ∀ u ∈ t.all, u.ok p = true
  | .yes, h, u, hu => by simp [Tr.all] at hu; subst hu; exact h
  | .no, h, u, hu => by simp [Tr.all] at hu; subst hu; exact h
  | .fails w, h, u, hu => by simp [Tr.all] at hu; subst hu; exact h
  | .shows i t, h, u, hu => by
    simp only [Tr.all, List.mem_cons] at hu
    rcases hu with rfl | hu
    · exact h
    · exact tr_all_ok t (Bool.and_eq_true_iff.mp h).2 u hu
  | .does i a b, h, u, hu => by
    simp only [Tr.all, List.mem_cons, List.mem_append] at hu
    rcases hu with rfl | hu | hu
    · exact h
    · exact tr_all_ok a (Bool.and_eq_true_iff.mp (Bool.and_eq_true_iff.mp h).2).1 u hu
    · exact tr_all_ok b (Bool.and_eq_true_iff.mp (Bool.and_eq_true_iff.mp h).2).2 u hu
theorem all_deep : ∀ (t : Tr), ∀ u ∈ t.all, u.deep ≤ t.deep
  | .yes, u, hu => by simp [Tr.all] at hu; subst hu; exact Nat.le_refl _
  | .no, u, hu => by simp [Tr.all] at hu; subst hu; exact Nat.le_refl _
  | .fails w, u, hu => by simp [Tr.all] at hu; subst hu; exact Nat.le_refl _
  | .shows i t, u, hu => by
    simp only [Tr.all, List.mem_cons] at hu
    rcases hu with rfl | hu
    · exact Nat.le_refl _
    · have := all_deep t u hu
      simp only [Tr.deep]; omega
  | .does i a b, u, hu => by
    simp only [Tr.all, List.mem_cons, List.mem_append] at hu
    rcases hu with rfl | hu | hu
    · exact Nat.le_refl _
    · have := all_deep a u hu
      simp only [Tr.deep]; omega
    · have := all_deep b u hu
      simp only [Tr.deep]; omega
/-- what is within a cut of a tree is a cut of it -/
theorem mt_sub : ∀ (c t : Tr) (y n : List Tr), c.mt t = some (y, n) → ∀ c' ∈ c.all, ∃ t' ∈ t.all, ∃ y' n', c'.mt t' = some (y', n') ∧ (∀ u ∈ y', u ∈ y) ∧ ∀ u ∈ n', u ∈ n
  | .yes, t, y, n, h, c', hc => by
    simp [Tr.all] at hc; subst hc
    exact ⟨t, self_mem t, y, n, h, fun _ z => z, fun _ z => z⟩
  | .no, t, y, n, h, c', hc => by
    simp [Tr.all] at hc; subst hc
    exact ⟨t, self_mem t, y, n, h, fun _ z => z, fun _ z => z⟩
  | .fails w, t, y, n, h, c', hc => by
    simp [Tr.all] at hc; subst hc
    exact ⟨t, self_mem t, y, n, h, fun _ z => z, fun _ z => z⟩
  | .shows i c, t, y, n, h, c', hc => by
    simp only [Tr.all, List.mem_cons] at hc
    rcases hc with rfl | hc
    · exact ⟨t, self_mem t, y, n, h, fun _ z => z, fun _ z => z⟩
    · cases t with
      | shows j t =>
        unfold Tr.mt at h
        split at h
        · obtain ⟨t', ht, y', n', q⟩ := mt_sub c t y n h c' hc
          exact ⟨t', by simp [Tr.all, ht], y', n', q⟩
        · cases h
      | _ => cases h
  | .does i c d, t, y, n, h, c', hc => by
    simp only [Tr.all, List.mem_cons, List.mem_append] at hc
    rcases hc with rfl | hc
    · exact ⟨t, self_mem t, y, n, h, fun _ z => z, fun _ z => z⟩
    · cases t with
      | does j t u =>
        unfold Tr.mt at h
        split at h
        · split at h
          · rename_i y1 n1 e1
            split at h
            · rename_i y2 n2 e2
              cases h
              rcases hc with hc | hc
              · obtain ⟨t', ht, y', n', q, q1, q2⟩ := mt_sub c t _ _ e1 c' hc
                exact ⟨t', by simp [Tr.all, ht], y', n', q, fun u hu => dd_mem.mpr (.inl (q1 u hu)), fun u hu => dd_mem.mpr (.inl (q2 u hu))⟩
              · obtain ⟨t', ht, y', n', q, q1, q2⟩ := mt_sub d u _ _ e2 c' hc
                exact ⟨t', by simp [Tr.all, ht], y', n', q, fun u hu => dd_mem.mpr (.inr (q1 u hu)), fun u hu => dd_mem.mpr (.inr (q2 u hu))⟩
            · cases h
          · cases h
        · cases h
      | _ => cases h
theorem len_one {y y' : List Tr} (h : y.length ≤ 1) (nd : y'.Nodup) (s : ∀ u ∈ y', u ∈ y) : y'.length ≤ 1 := by
  match y', nd, s with
  | [], _, _ => simp
  | [_], _, _ => simp
  | a :: b :: r, nd, s =>
    have h1 := s a (by simp)
    have h2 := s b (by simp)
    match y, h with
    | [], _ => cases h1
    | [z], _ =>
      rw [List.mem_singleton] at h1 h2
      subst h1
      subst h2
      simp at nd
theorem cutOf_sub {c t c' : Tr} (h : cutOf c t = true) (hc : c' ∈ c.all) : cutOf c' t = true := by
  rw [← mt_cut] at h ⊢
  obtain ⟨v, hv, hm⟩ := List.any_eq_true.mp h
  unfold mtOk at hm
  split at hm
  · rename_i y n e
    rw [Bool.and_eq_true_iff, decide_eq_true_iff, decide_eq_true_iff] at hm
    obtain ⟨t', ht, y', n', q, q1, q2⟩ := mt_sub c v y n e c' hc
    obtain ⟨nd1, nd2⟩ := mt_nodup c' t' q
    refine List.any_eq_true.mpr ⟨t', all_trans t v t' hv ht, ?_⟩
    unfold mtOk
    rw [q]
    simp [len_one hm.1 nd1 q1, len_one hm.2 nd2 q2]
  · cases hm
theorem graft_self : ∀ t : Tr, t.graft .yes .no = t
  | .yes => rfl
  | .no => rfl
  | .fails w => rfl
  | .shows i t => by unfold Tr.graft; rw [graft_self t]
  | .does i a b => by unfold Tr.graft; rw [graft_self a, graft_self b]
theorem cutOf_graft {c y n t : Tr} (h : c.graft y n ∈ t.all) : cutOf c t = true :=
  List.any_eq_true.mpr ⟨_, h, (graft_cut c y n (none, none) (fun _ z => nomatch z) (fun _ z => nomatch z)).1⟩
theorem cutOf_self (t : Tr) : cutOf t t = true := by
  have e := graft_self t
  refine cutOf_graft (y := .yes) (n := .no) ?_
  rw [e]
  exact self_mem t
theorem graft_ok {p : Int} {y n : Tr} (hy : y.ok p = true) (hn : n.ok p = true) : ∀ t : Tr, t.ok p = true → (t.graft y n).ok p = true
  | .yes, _ => hy
  | .no, _ => hn
  | .fails w, h => h
  | .shows i t, h => by
    have h := Bool.and_eq_true_iff.mp h
    exact Bool.and_eq_true_iff.mpr ⟨h.1, graft_ok hy hn t h.2⟩
  | .does i a b, h => by
    have h := Bool.and_eq_true_iff.mp h
    have h2 := Bool.and_eq_true_iff.mp h.2
    exact Bool.and_eq_true_iff.mpr ⟨h.1, Bool.and_eq_true_iff.mpr ⟨graft_ok hy hn a h2.1, graft_ok hy hn b h2.2⟩⟩
theorem graft_deep {y n : Tr} {k : Nat} (hy : y.deep ≤ k) (hn : n.deep ≤ k) : ∀ t : Tr, (t.graft y n).deep ≤ t.deep + k
  | .yes => by unfold Tr.graft; omega
  | .no => by unfold Tr.graft; omega
  | .fails w => by unfold Tr.graft; simp [Tr.deep]
  | .shows i t => by
    have := graft_deep hy hn t
    simp only [Tr.graft, Tr.deep]; omega
  | .does i a b => by
    have := graft_deep hy hn a
    have := graft_deep hy hn b
    simp only [Tr.graft, Tr.deep]; omega
/-- all that a tree of a turn must be -/
structure Sm (p : Int) (k : Nat) (t : Tr) : Prop where
  ok : t.ok p = true
  dp : t.deep ≤ k
theorem Sm.sz {p : Int} {k : Nat} {t : Tr} (h : Sm p k t) (hk : k ≤ 8) : sz t.dt ≤ 10000 := by
  have h1 := t.sz_le h.ok
  have h2 : 2 ^ t.deep ≤ 2 ^ 8 := Nat.pow_le_pow_right (by decide) (Nat.le_trans h.dp hk)
  omega
theorem Sm.len {p : Int} {k : Nat} {t : Tr} (h : Sm p k t) (hk : k ≤ 7) : t.all.length ≤ 256 := by
  have h1 := t.all_len
  have h2 : 2 ^ t.deep ≤ 2 ^ 7 := Nat.pow_le_pow_right (by decide) (Nat.le_trans h.dp hk)
  omega
theorem Sm.all {p : Int} {k : Nat} {t u : Tr} (h : Sm p k t) (hu : u ∈ t.all) : Sm p k u := ⟨tr_all_ok t h.ok u hu, Nat.le_trans (all_deep t u hu) h.dp⟩
theorem Sm.cut {os : List Ob} {p : Int} {t c : Tr} (hp : isBelow 5 (.int p) = true) (ht : Sm p 7 t) (hc : Sm p 7 c) : F_is_cut [.d (.int p), .d t.dt, .d c.dt] os = some (.ok (.d (.bool (cutOf c t))) os []) := by
  have h1 := ht.sz (by decide)
  have h2 := hc.sz (by decide)
  have h3 := ht.len (by decide)
  have h4 := hc.len (by decide)
  have h5 := ht.dp
  have h6 := hc.dp
  refine F_cut_eq hp ht.ok hc.ok (by unfold big; omega) (by unfold big; omega) (by omega) (by omega) ?_ (by omega)
  have := Nat.mul_le_mul (show 3 + t.all.length + c.all.length ≤ 515 by omega) h4
  omega
end
section
variable {s : AS} {Q : W → AS → Prop} {X : Ex → AS → Prop}
theorem wp_err {q : Str} {errs : List Str} {m : FM W} : wp (mErr q errs m) s Q X = (tabO q s.os[0]? = true ∧ wp m ⟨s.sl, s.os, []⟩ (fun _ s1 => Q (.d .none) ⟨s.sl, s1.os, s.es ++ s1.es⟩) fun e s1 => e.c ∈ errs ∧ Q (.exc e) ⟨s.sl, s1.os, s.es ++ s1.es⟩) := by
  unfold wp mErr
  by_cases h : tabO q s.os[0]? = true
  · rw [if_pos h]
    cases m ⟨s.sl, s.os, []⟩ with
    | none => simp [h]
    | some o => cases o with
      | ok a s1 => simp [h]
      | ex e s1 =>
        by_cases k : e.c ∈ errs
        · simp [h, k]
        · simp [h, k]
  · rw [if_neg h]
    simp [h]
theorem comp_draw {t : Tg} {e : FM W} {sl0 : List (Option W)} {w : W} {ws : List W} {K : AS × List PyData → Prop} (h : wpo (tgS t w ⟨sl0, s.os, s.es⟩) fun s1 => wp e s1 (fun y s2 => ∃ x, y = .d x ∧ wpo (compL t mYes e sl0 ws s2) fun p => K (p.1, x :: p.2)) fun _ _ => False) : wpo (compL t mYes e sl0 (w :: ws) s) K := by
  unfold compL
  cases q : tgS t w ⟨sl0, s.os, s.es⟩ with
  | none => rw [q] at h; exact h.elim
  | some s1 =>
    rw [q] at h
    simp only [wpo_some] at h
    have e0 : mYes s1 = some (.ok true s1) := rfl
    dsimp only
    rw [e0]
    dsimp only
    unfold wp at h
    cases q2 : e s1 with
    | none => rw [q2] at h; exact h.elim
    | some o =>
      rw [q2] at h
      cases o with
      | ex x s2 => exact h.elim
      | ok y s2 =>
        obtain ⟨x, rfl, h⟩ := h
        dsimp only at h ⊢
        cases q3 : compL t mYes e sl0 ws s2 with
        | none => rw [q3] at h; exact h.elim
        | some p => rw [q3] at h; exact h
theorem comp_nil {t : Tg} {e : FM W} {sl0 : List (Option W)} {K : AS × List PyData → Prop} : wpo (compL t mYes e sl0 [] s) K = K (s, []) := rfl
end
theorem ints_of {f : PyData → List PyData} : ∀ {xs : List PyData}, (∀ x ∈ xs, ∃ zs : List Int, f x = zs.map .int) → ∃ zs : List Int, xs.flatMap f = zs.map .int
  | [], _ => ⟨[], rfl⟩
  | x :: xs, h => by
    obtain ⟨a, ha⟩ := h x List.mem_cons_self
    obtain ⟨b, hb⟩ := ints_of fun y hy => h y (List.mem_cons_of_mem _ hy)
    exact ⟨a ++ b, by rw [List.flatMap_cons, ha, hb, List.map_append]⟩
def absI (i : Int) : Int := if i < 0 then -i else i
def fW : PyData → List PyData
  | .int i => if decide ((1000000000000000000 : Int) ≤ absI i) = true then [.int (absI i - 1000000000000000000)] else []
  | _ => []
def fC : PyData → List PyData
  | .int i => [.int (absI i % 2147483629)]
  | _ => []
theorem fW_len (x : PyData) : (fW x).length ≤ 1 := by
  unfold fW
  split
  · split <;> simp
  · simp
theorem fC_len (x : PyData) : (fC x).length ≤ 1 := by
  unfold fC
  split <;> simp
theorem flat_len {f : PyData → List PyData} (h : ∀ x, (f x).length ≤ 1) : ∀ xs : List PyData, (xs.flatMap f).length ≤ xs.length
  | [] => by simp
  | x :: xs => by
    rw [List.flatMap_cons, List.length_append, List.length_cons]
    have := h x
    have := flat_len h xs
    omega
theorem F_begun_eq {q : Str} {ns : List Int} (h : ns.length ≤ 63) : ∃ d : DS, d.t = 0 ∧ F__law_begun [.d (.list (ns.map .int))] [.tab q] = some (.ok (.obj 2) (Dr [.tab q, .dead, .dead] 2 1 d) []) := by
  obtain ⟨wd, hw⟩ := ints_of (f := fW) (xs := ns.map .int) (fun x hx => by
    obtain ⟨i, _, rfl⟩ := List.mem_map.mp hx
    unfold fW
    dsimp only
    split
    · exact ⟨[_], rfl⟩
    · exact ⟨[], rfl⟩)
  obtain ⟨cl, hc⟩ := ints_of (f := fC) (xs := ns.map .int) (fun x hx => by
    obtain ⟨i, _, rfl⟩ := List.mem_map.mp hx
    exact ⟨[_], rfl⟩)
  have lw := flat_len fW_len (ns.map PyData.int)
  have lc := flat_len fC_len (ns.map PyData.int)
  rw [List.length_map] at lw lc
  refine ⟨⟨wd, cl, 0, 0⟩, rfl, run_of ?_⟩
  unfold b__law_begun
  walk_at "wg"
  rw [wp_compB]
  walk_at "wg"
  obtain ⟨sl1, e1⟩ := compL_pure (t := .nm 2) (c := (mBool (mOp2 gGe (mOpn gAbs (mCons (mVar 2) mNil)) (mOp2 gPow (mC (.int 10)) (mC (.int 18)))))) (e := (mOp2 gMinus (mOpn gAbs (mCons (mVar 2) mNil)) (mOp2 gPow (mC (.int 10)) (mC (.int 18))))) (f := fW) (xs := ns.map .int) (sl := wipeS [some (W.d (.list (ns.map .int))), none, none] [2]) (s := ⟨[some (W.d (.list (ns.map .int))), none, none], [.tab q], []⟩) (by
    intro x hx
    obtain ⟨i, _, rfl⟩ := List.mem_map.mp hx
    simp only [tgS, wipeS]
    walk_at "wg"
    simp only [gPow_i (show (0 : Int) ≤ 18 by decide) (show (18 : Int) ≤ 1000000 by decide) (show (10 : Int).natAbs < 2 ^ 64 by decide)]
    walk_at "wg"
    unfold fW absI
    refine ⟨fun z => ⟨_, rfl, ?_⟩, fun z => ?_⟩
    · simp only [z, if_true]
    · simp only [z, Bool.false_eq_true, if_false])
  rw [e1]
  walk_at "wg"
  refine ⟨by unfold big; omega, ?_⟩
  refine wp_disp ?_
  simp only [wp_pairs0, wp_pairs1]
  walk_at "wg"
  refine wp_comp_pure fC (ns.map .int) ?_
  walk_at "wg"
  refine ⟨?_, by unfold big; omega, ?_⟩
  · intro x hx
    obtain ⟨i, _, rfl⟩ := List.mem_map.mp hx
    simp only [tgS, wipeS]
    walk_at "wg"
    exact ⟨_, rfl, rfl⟩
  · have hb : ∀ {x : PyData}, build false [(.d (.str "wide"), .obj 1), (.d (.str "cells"), .d x), (.d (.str "rest"), .d (.int 0)), (.d (.str "turn"), .d (.int 0))] = some (.dct [(.str "wide", .obj 1), (.str "cells", .d x), (.str "rest", .d (.int 0)), (.str "turn", .d (.int 0))]) := fun {x} => by
      rfl
    rw [hb, wpo_some, hw, hc]
    unfold Dr DS.wl DS.dct fin
    simp [List.map_map, Function.comp_def]
section
noncomputable def lapR : FM Fl := (mSeq (mAsg (mAndV (mCall 2 (F__law_is_tree 30) (mCons (mVar 3) (mCons (mVar 13) mNil))) (mCall 2 F__law_is_cut (mCons (mVar 9) (mCons (mVar 13) mNil)))) (gSet 14))
(mSeq (mIf (mBool (mOp2 gNe (mOpn gRepr (mCons (mCall 3 F_is_cut (mCons (mVar 3) (mCons (mVar 7) (mCons (mVar 13) mNil)))) mNil)) (mOpn gRepr (mCons (mVar 14) mNil))))
(mRet (mC (.bool false)))
mNext)
(mIf (mAndT (mTruth (mVar 14)) (mBool (mOp2 gLt (mVar 12) (mC (.int 4)))))
(mSeq (mAsg (mCall 2 F__law_pick (mCons (mVar 1) (mCons (mCall 1 (F__law_all_within 30) (mCons (mVar 13) mNil)) mNil))) (gSet 15))
(mIf (mOrT (mBool (mOp2 (gIsN true) (mCall 3 F_is_cut (mCons (mVar 3) (mCons (mVar 13) (mCons (mVar 15) mNil)))) (mC (.bool true)))) (mBool (mOp2 (gIsN true) (mCall 3 F_is_cut (mCons (mVar 3) (mCons (mVar 7) (mCons (mVar 15) mNil)))) (mC (.bool true)))))
(mRet (mC (.bool false)))
mNext))
mNext)))
noncomputable def lapB : FM Fl := (mSeq (mAsg (mIfE (mBool (mOp2 gLt (mVar 12) (mOpn gLen (mCons (mVar 11) mNil)))) (mOp2 gIxA (mVar 11) (mVar 12)) (mCall 3 F__law_bent (mCons (mVar 1) (mCons (mCall 2 F__law_pick (mCons (mVar 1) (mCons (mOp2 gAdd (mVar 11) (mLst (mCons (mVar 4) (mCons (mVar 7) mNil)))) mNil))) (mCons (mLst (mCons (mC (.str ("w" : Str))) (mCons (mC (.str ("err" : Str))) mNil))) mNil))))) (gSet 13))
lapR)
abbrev O3 : List Ob := [.tab "law.<locals>.<lambda>", .dead, .dead]
instance : DOk O3 2 1 := ⟨by decide, by decide, by decide⟩
theorem Sm.mono {p : Int} {k l : Nat} {t : Tr} (h : Sm p k t) (hk : k ≤ l) : Sm p l t := ⟨h.ok, Nat.le_trans h.dp hk⟩
theorem gRepr_b {os : List Ob} {b : Bool} : gRepr os [.d (.bool b)] = some (.d (.str (tfS b))) := rfl
theorem gIsN_b {os : List Ob} {a b : Bool} {neg : Bool} : gIsN neg os (.d (.bool a)) (.d (.bool b)) = some (.d (.bool (neg != decide (a = b)))) := rfl
theorem gNe_tf {os : List Ob} {b : Bool} : gNe os (.d (.str (tfS b))) (.d (.str (tfS b))) = some (.d (.bool false)) := by
  rw [gNe_s]
  simp
/-- what a lap looks at -/
structure Lk (x : PyData) : Prop where
  w : wS x = true
  z : sz x ≤ 50000
  d : x.depth ≤ 7
theorem Lk.of {p : Int} {t : Tr} (hp : p ≤ 20) (h : Sm p 5 t) : Lk t.dt := ⟨tS_wS _ (t.tS hp h.ok), by have := h.sz (by decide); omega, by rw [t.depth_dt]; have := h.dp; omega⟩
variable {p : Int} {Q : Fl → AS → Prop} {X : Ex → AS → Prop}
theorem below5 {p : Int} (p0 : 0 < p) (p1 : p ≤ 4) : isBelow 5 (.int p) = true := by
  show (decide (0 ≤ p) && decide (p < 5)) = true
  rw [Bool.and_eq_true_iff, decide_eq_true_iff, decide_eq_true_iff]
  omega
set_option maxHeartbeats 8000000 in
theorem lapR_ok {b : Nat} {d : DS} {C T : Tr} {S : List PyData} {i : Nat} {x : PyData} {w0 h2 h5 h6 h8 h10 h14 h15 h16 h17 h18 : Option W} (hd : d.ok (b + 1)) (p0 : 0 < p) (p1 : p ≤ 4) (hi : i < 8) (hT : Sm p 5 T) (hx : Lk x)
    (k : ∀ (h13 h14 h15 : Option W) (e : DS), e.ok b → Q .nx ⟨[w0, some (.obj 2), h2, some (.d (.int p)), some (.d C.dt), h5, h6, some (.d T.dt), h8, some (.d (.list (T.all.map Tr.dt))), h10, some (.d (.list S)), some (.d (.int (i : Int))), h13, h14, h15, h16, h17, h18], Dr O3 2 1 e, []⟩) :
    wp lapR ⟨[w0, some (.obj 2), h2, some (.d (.int p)), some (.d C.dt), h5, h6, some (.d T.dt), h8, some (.d (.list (T.all.map Tr.dt))), h10, some (.d (.list S)), some (.d (.int (i : Int))), some (.d x), h14, h15, h16, h17, h18], Dr O3 2 1 d, []⟩ Q X := by
  have hb := below5 p0 p1
  unfold lapR
  walk_at "wg"
  rw [F_ltree_eq 30 x (by have := hx.d; omega) hx.w (by have := hx.z; unfold big; omega)]
  walk_at "wg"
  cases q : isTr p x with
  | false =>
    simp only [q]
    walk_at "wg"
    rw [F_cut_no hb (by have := hT.sz (by decide); unfold big; omega) (by rw [Tr.isTr, hT.ok]) (by have := hx.z; unfold big; omega) q]
    walk_at "wg"
    simp only [gRepr_b, gNe_tf]
    walk_at "wg"
    exact k _ _ _ d (hd.le (by omega))
  | true =>
    obtain ⟨c, rfl, hc⟩ := isTr_dt q
    have hcd := hx.d
    rw [c.depth_dt] at hcd
    have sc : Sm p 7 c := ⟨hc, by omega⟩
    simp only [q]
    walk_at "wg"
    rw [F_lcut_eq (c.wok_ok hc) (by omega) (us := T.all) (fun u hu => ⟨u.wok_ok (hT.all hu).ok, by have := (hT.all hu).dp; omega⟩)]
    walk_at "wg"
    rw [Sm.cut hb (hT.mono (by decide)) sc]
    walk_at "wg"
    rw [show (T.all.any fun u => (c.bec u (none, none)).1) = cutOf c T from rfl]
    simp only [gRepr_b, gNe_tf]
    walk_at "wg"
    refine ⟨fun hcut => ?_, fun _ => k _ _ _ d (hd.le (by omega))⟩
    refine ⟨fun h4 => ?_, fun _ => k _ _ _ d (hd.le (by omega))⟩
    rw [F_all_eq 30 c (by omega) (by omega)]
    walk_at "wg"
    have hlen := sc.len (by decide)
    refine post_t (F_pick_eq (d := d) (b := b) hd (xs := c.all.map Tr.dt) (by cases c <;> simp [Tr.all]) (by rw [List.length_map]; omega)) ?_
    rintro y os' ⟨hy, e, he, rfl⟩
    obtain ⟨u, hu, rfl⟩ := List.mem_map.mp hy
    walk_at "wg"
    rw [Sm.cut hb sc (sc.all hu), cutOf_sub (cutOf_self c) hu]
    walk_at "wg"
    simp only [gIsN_b]
    walk_at "wg"
    rw [Sm.cut hb (hT.mono (by decide)) (sc.all hu), cutOf_sub hcut hu]
    walk_at "wg"
    simp only [gIsN_b]
    walk_at "wg"
    exact k _ _ _ e he
set_option maxHeartbeats 8000000 in
theorem lap_ok {b : Nat} {d : DS} {C T : Tr} {S : List Tr} {i : Nat} {w0 h2 h5 h6 h8 h10 h13 h14 h15 h16 h17 h18 : Option W} (hd : d.ok (b + 7)) (p0 : 0 < p) (p1 : p ≤ 4) (hi : i < 8) (hC : Sm p 5 C) (hT : Sm p 5 T) (hS : ∀ u ∈ S, Sm p 5 u) (hl : S.length = 4)
    (k : ∀ (h13 h14 h15 : Option W) (e : DS), e.ok b → Q .nx ⟨[w0, some (.obj 2), h2, some (.d (.int p)), some (.d C.dt), h5, h6, some (.d T.dt), h8, some (.d (.list (T.all.map Tr.dt))), h10, some (.d (.list (S.map Tr.dt))), some (.d (.int (i : Int))), h13, h14, h15, h16, h17, h18], Dr O3 2 1 e, []⟩) :
    wp lapB ⟨[w0, some (.obj 2), h2, some (.d (.int p)), some (.d C.dt), h5, h6, some (.d T.dt), h8, some (.d (.list (T.all.map Tr.dt))), h10, some (.d (.list (S.map Tr.dt))), some (.d (.int (i : Int))), h13, h14, h15, h16, h17, h18], Dr O3 2 1 d, []⟩ Q X := by
  unfold lapB
  walk_at "wg"
  rw [List.length_map, hl]
  refine ⟨fun h4 => ?_, fun h4 => ?_⟩
  · have h4 : i < S.length := by
      have := of_decide_eq_true h4
      omega
    rw [atI_nat, List.getElem?_map, List.getElem?_eq_getElem h4]
    walk_at "wg"
    exact lapR_ok (hd.le (by omega)) p0 p1 hi hT (Lk.of (by omega) (hS _ (List.getElem_mem h4))) k
  · rw [gAdd_ll (by rw [List.length_map, hl]; simp [big])]
    walk_at "wg"
    refine post_t (F_pick_eq (d := d) (b := b + 6) hd (xs := S.map Tr.dt ++ [C.dt, T.dt]) (by simp) (by simp [hl])) ?_
    rintro y os' ⟨hy, e, he, rfl⟩
    have hy2 : ∃ t : Tr, Sm p 5 t ∧ y = t.dt := by
      simp only [List.mem_append, List.mem_map, List.mem_cons, List.not_mem_nil, or_false] at hy
      rcases hy with ⟨t, ht, rfl⟩ | rfl | rfl
      · exact ⟨t, hS t ht, rfl⟩
      · exact ⟨C, hC, rfl⟩
      · exact ⟨T, hT, rfl⟩
    obtain ⟨t, st, rfl⟩ := hy2
    walk_at "wg"
    have hz := st.sz (by decide)
    have hdp := st.dp
    refine post_t (F_bent_eq (d := e) (b := b + 1) he (t.tS (by omega) st.ok) (by omega) (by rw [t.depth_dt]; omega)) ?_
    rintro y os' ⟨⟨hw, hz2, hd2⟩, e2, he2, rfl⟩
    rw [t.depth_dt] at hd2
    walk_at "wg"
    exact lapR_ok he2 p0 p1 hi hT ⟨hw, by omega, by omega⟩ k
end
section
noncomputable def turnE : FM Fl := (mSeq (mParT (gConsF (gSet 16) (gConsF (gSet 17) gNilF)) 2 (mCons (mCall 2 F__law_pick (mCons (mVar 1) (mCons (mLst (mCons (mC .none) (mCons (mC (.int 5)) (mCons (mC (.str ("yes" : Str))) (mCons (mLst (mCons (mC (.str ("yes" : Str))) mNil)) (mCons (mTup (mCons (mC (.str ("does" : Str))) (mCons (mVar 3) (mCons (mVar 5) (mCons (mVar 6) mNil))))) (mCons (mTup (mCons (mC (.str ("shows" : Str))) (mCons (mC (.int 8)) (mCons (mVar 5) mNil)))) (mCons (mTup (mCons (mC (.str ("fails" : Str))) (mCons (mC (.str ("let" : Str))) mNil))) (mCons (mTup mNil) mNil))))))))) mNil))) (mCons (mCall 1 F__law_no_parts (mCons (mVar 1) mNil)) mNil)))
(mSeq (mIf (mNotT (mTruth (mOp1 (gIsX errs ("BadTree" : Str)) (mErr ("law.<locals>.<lambda>" : Str) errs (mCall 3 F_is_cut (mCons (mVar 3) (mCons (mVar 16) (mCons (mVar 16) mNil))))))))
(mRet (mC (.bool false)))
mNext)
(mIf (mNotT (mTruth (mOp1 (gIsX errs ("BadParts" : Str)) (mErr ("law.<locals>.<lambda>" : Str) errs (mCall 3 F_is_cut (mCons (mVar 17) (mCons (mVar 16) (mCons (mVar 4) mNil))))))))
(mRet (mC (.bool false)))
mNext)))
noncomputable def turnR : FM Fl := (mSeq (mAsg (mCall 1 (F__law_all_within 30) (mCons (mVar 7) mNil)) (gSet 9))
(mSeq (mIf (mOrT (mBool (mOp2 (gIsN true) (mCallK 3 [2, 1, 0] F_is_cut (mCons (mVar 4) (mCons (mVar 7) (mCons (mVar 3) mNil)))) (mC (.bool true)))) (mBool (mOp2 (gIsN true) (mCall 3 F_is_cut (mCons (mVar 3) (mCons (mVar 7) (mCons (mVar 7) mNil)))) (mC (.bool true)))))
(mRet (mC (.bool false)))
mNext)
(mSeq (mAsg (mComp (mRng rng1 (mCons (mC (.int 2)) mNil)) (.nm 18) [18] mYes (mCall 2 F__law_pick (mCons (mVar 1) (mCons (mLst (mCons (mTup (mCons (mC (.str ("yes" : Str))) mNil)) (mCons (mTup (mCons (mC (.str ("no" : Str))) mNil)) (mCons (mTup (mCons (mC (.str ("fails" : Str))) (mCons (mC (.str ("w" : Str))) mNil))) mNil)))) mNil)))) (gSet 10))
(mSeq (mAsg (mLst (mCons (mCall 3 (F__law_grafted 30) (mCons (mVar 4) (mCons (mOp2 gIxA (mVar 10) (mC (.int 0))) (mCons (mOp2 gIxA (mVar 10) (mC (.int 1))) mNil)))) (mCons (mCall 2 F__law_pick (mCons (mVar 1) (mCons (mVar 9) mNil))) (mCons (mCall 3 (F__law_drawn_tree 30) (mCons (mVar 1) (mCons (mVar 3) (mCons (mC (.int 2)) mNil)))) (mCons (mCall 3 (F__law_grafted 30) (mCons (mVar 8) (mCons (mVar 5) (mCons (mVar 6) mNil)))) mNil))))) (gSet 11))
(mSeq (mFor (mRng rng1 (mCons (mC (.int 8)) mNil)) (gSet 12)
lapB)
turnE)))))
noncomputable def turnB : FM Fl := (mSeq (mAsg (mOp2 gAdd (mC (.int 1)) (mCall 2 F__law_take (mCons (mVar 1) (mCons (mC (.int 4)) mNil)))) (gSet 3))
(mSeq (mAsg (mComp (mRng rng1 (mCons (mC (.int 3)) mNil)) (.nm 18) [18] mYes (mCall 3 (F__law_drawn_tree 30) (mCons (mVar 1) (mCons (mVar 3) (mCons (mC (.int 2)) mNil))))) (gLstF 3 (gConsF (gSet 4) (gConsF (gSet 5) (gConsF (gSet 6) gNilF)))))
(mSeq (mPar 7 8 (mCons (mCall 3 (F__law_grafted 30) (mCons (mVar 4) (mCons (mVar 5) (mCons (mVar 6) mNil)))) (mCons (mCall 3 (F__law_drawn_tree 30) (mCons (mVar 1) (mCons (mVar 3) (mCons (mC (.int 1)) mNil)))) mNil)))
(mSeq (mIf (mBool (mOp2 gEqA (mCall 2 F__law_take (mCons (mVar 1) (mCons (mC (.int 2)) mNil))) (mC (.int 0))))
(mAsg (mIfE (mBool (mOp2 gEqA (mCall 2 F__law_take (mCons (mVar 1) (mCons (mC (.int 2)) mNil))) (mC (.int 0)))) (mTup (mCons (mC (.str ("does" : Str))) (mCons (mCall 2 F__law_take (mCons (mVar 1) (mCons (mVar 3) mNil))) (mCons (mVar 8) (mCons (mVar 7) mNil))))) (mTup (mCons (mC (.str ("shows" : Str))) (mCons (mC (.int 1)) (mCons (mVar 7) mNil))))) (gSet 7))
mNext)
turnR))))
variable {p : Int} {Q : Fl → AS → Prop} {X : Ex → AS → Prop}
theorem rng1_i {j : Int} (h0 : 0 ≤ j) (h1 : j < 1000) : rng1 [.d (.int j)] = some (rng 0 j.toNat) := if_pos (by omega)
theorem err_bt : decide (("BadTree" : Str) = "BadTree") = true := decide_eq_true rfl
theorem err_bp : decide (("BadParts" : Str) = "BadParts") = true := decide_eq_true rfl
theorem in_bt : ("BadTree" : Str) ∈ errs := by decide +kernel
theorem in_bp : ("BadParts" : Str) ∈ errs := by decide +kernel
theorem gIsX_bt {os : List Ob} : gIsX errs "BadTree" os (.exc ⟨"BadTree", []⟩) = some (.d (.bool true)) := by
  show (if ("BadTree" : Str) ∈ errs then some (W.d (.bool (decide (("BadTree" : Str) = "BadTree")))) else none) = _
  rw [if_pos in_bt, err_bt]
theorem gIsX_bp {os : List Ob} : gIsX errs "BadParts" os (.exc ⟨"BadParts", []⟩) = some (.d (.bool true)) := by
  show (if ("BadParts" : Str) ∈ errs then some (W.d (.bool (decide (("BadParts" : Str) = "BadParts")))) else none) = _
  rw [if_pos in_bp, err_bp]
theorem tab0 {e : DS} : tabO "law.<locals>.<lambda>" (Dr O3 2 1 e)[0]? = true := by
  show decide (("law.<locals>.<lambda>" : Str) = "law.<locals>.<lambda>") = true
  exact decide_eq_true rfl
theorem bad_all {p : Int} {Y N : Tr} (hY : Sm p 5 Y) (hN : Sm p 5 N) : ∀ x ∈ ([.none, .int 5, .str "yes", .list [.str "yes"], .tuple [.str "does", .int p, Y.dt, N.dt], .tuple [.str "shows", .int 8, Y.dt], .tuple [.str "fails", .str "let"], .tuple []] : List PyData), isTr p x = false ∧ sz x ≤ big := by
  have l1 : ("yes" : Str).length = 3 := by decide +kernel
  have l2 : ("does" : Str).length = 4 := by decide +kernel
  have l3 : ("shows" : Str).length = 5 := by decide +kernel
  have l4 : ("fails" : Str).length = 5 := by decide +kernel
  have l5 : ("let" : Str).length = 3 := by decide +kernel
  have h1 := hY.sz (by decide)
  have h2 := hN.sz (by decide)
  intro x hx
  simp only [List.mem_cons, List.not_mem_nil, or_false] at hx
  rcases hx with rfl | rfl | rfl | rfl | rfl | rfl | rfl | rfl
  · exact ⟨rfl, by simp [sz, big]⟩
  · exact ⟨rfl, by simp [sz, big]⟩
  · exact ⟨rfl, by simp [sz, big, l1]⟩
  · exact ⟨rfl, by simp [sz, big]⟩
  · refine ⟨?_, by simp [sz, szs, big, l2]; omega⟩
    rw [show PyData.tuple [.str "does", .int p, Y.dt, N.dt] = (Tr.does p Y N).dt from rfl, Tr.isTr]
    have : isBelow p (.int p) = false := by
      show (decide (0 ≤ p) && decide (p < p)) = false
      simp
    simp [Tr.ok, this]
  · refine ⟨?_, by simp [sz, szs, big, l3]; omega⟩
    rw [show PyData.tuple [.str "shows", .int 8, Y.dt] = (Tr.shows 8 Y).dt from rfl, Tr.isTr]
    rfl
  · refine ⟨?_, by simp [sz, szs, big, l4, l5]⟩
    rw [show PyData.tuple [.str "fails", .str "let"] = (Tr.fails "let").dt from rfl, Tr.isTr]
    show isNm (.str "let") = false
    decide +kernel
  · refine ⟨?_, by simp [sz, szs, big]⟩
    unfold isTr
    rfl
set_option maxHeartbeats 8000000 in
theorem turnE_ok {b : Nat} {d : DS} {Y N : Tr} {w0 h2 h4 h7 h8 h9 h10 h11 h12 h13 h14 h15 h16 h17 h18 : Option W} {C : Tr} (hd : d.ok (b + 2)) (p0 : 0 < p) (p1 : p ≤ 4) (hY : Sm p 5 Y) (hN : Sm p 5 N) (h4e : h4 = some (.d C.dt))
    (k : ∀ (h16 h17 : Option W) (e : DS), e.ok b → Q .nx ⟨[w0, some (.obj 2), h2, some (.d (.int p)), h4, some (.d Y.dt), some (.d N.dt), h7, h8, h9, h10, h11, h12, h13, h14, h15, h16, h17, h18], Dr O3 2 1 e, []⟩) :
    wp turnE ⟨[w0, some (.obj 2), h2, some (.d (.int p)), h4, some (.d Y.dt), some (.d N.dt), h7, h8, h9, h10, h11, h12, h13, h14, h15, h16, h17, h18], Dr O3 2 1 d, []⟩ Q X := by
  subst h4e
  have hb := below5 p0 p1
  unfold turnE
  walk_at "wg"
  refine post_t (F_pick_eq (d := d) (b := b + 1) hd (by simp) (by simp)) ?_
  rintro x os' ⟨hx, e, he, rfl⟩
  obtain ⟨hx1, hx2⟩ := bad_all hY hN x hx
  walk_at "wg"
  refine post_t (F_noparts_eq (d := e) (b := b) he) ?_
  rintro y os' ⟨hy, e2, he2, rfl⟩
  walk_at "wg"
  refine ⟨by decide, ?_⟩
  rw [wp_err]
  walk_at "wg"
  refine ⟨tab0, ?_⟩
  rw [F_cut_t hb hx2 hx1]
  walk_at "wg"
  refine ⟨in_bt, ?_⟩
  simp only [gIsX_bt]
  walk_at "wg"
  rw [wp_err]
  walk_at "wg"
  refine ⟨tab0, ?_⟩
  rw [F_cut_p hy]
  walk_at "wg"
  refine ⟨in_bp, ?_⟩
  simp only [gIsX_bp]
  walk_at "wg"
  exact k _ _ e2 he2
theorem r2 : (rng 0 ((2 : Int).toNat)).map W.d = [.d (.int 0), .d (.int 1)] := rfl
theorem r3 : (rng 0 ((3 : Int).toNat)).map W.d = [.d (.int 0), .d (.int 1), .d (.int 2)] := rfl
theorem ends_of {p : Int} {x : PyData} (h : x ∈ ([.tuple [.str "yes"], .tuple [.str "no"], .tuple [.str "fails", .str "w"]] : List PyData)) : ∃ E : Tr, Sm p 0 E ∧ x = E.dt := by
  simp only [List.mem_cons, List.not_mem_nil, or_false] at h
  rcases h with rfl | rfl | rfl
  · exact ⟨.yes, ⟨rfl, Nat.le_refl _⟩, rfl⟩
  · exact ⟨.no, ⟨rfl, Nat.le_refl _⟩, rfl⟩
  · refine ⟨.fails "w", ⟨?_, Nat.le_refl _⟩, rfl⟩
    show isNm (.str "w") = true
    decide +kernel
set_option maxHeartbeats 8000000 in
theorem turnR_ok {b : Nat} {d : DS} {C Y N T S : Tr} {w0 h2 h9 h10 h11 h12 h13 h14 h15 h16 h17 h18 : Option W} (hd : d.ok (b + 100)) (p0 : 0 < p) (p1 : p ≤ 4) (hC : Sm p 2 C) (hY : Sm p 2 Y) (hN : Sm p 2 N) (hT : Sm p 5 T) (hS : Sm p 1 S) (hg : C.graft Y N ∈ T.all)
    (k : ∀ (h9 h10 h11 h12 h13 h14 h15 h16 h17 : Option W) (e : DS), e.ok b → Q .nx ⟨[w0, some (.obj 2), h2, some (.d (.int p)), some (.d C.dt), some (.d Y.dt), some (.d N.dt), some (.d T.dt), some (.d S.dt), h9, h10, h11, h12, h13, h14, h15, h16, h17, h18], Dr O3 2 1 e, []⟩) :
    wp turnR ⟨[w0, some (.obj 2), h2, some (.d (.int p)), some (.d C.dt), some (.d Y.dt), some (.d N.dt), some (.d T.dt), some (.d S.dt), h9, h10, h11, h12, h13, h14, h15, h16, h17, h18], Dr O3 2 1 d, []⟩ Q X := by
  have hb := below5 p0 p1
  have dC := hC.dp
  have dY := hY.dp
  have dN := hN.dp
  have dT := hT.dp
  have dS := hS.dp
  unfold turnR
  walk_at "wg"
  rw [F_all_eq 30 T (by omega) (by omega)]
  walk_at "wg"
  simp only [List.getD_cons_zero, List.getD_cons_succ]
  rw [Sm.cut hb (hT.mono (by decide)) (hC.mono (by decide)), cutOf_graft hg]
  walk_at "wg"
  simp only [gIsN_b]
  walk_at "wg"
  rw [Sm.cut hb (hT.mono (by decide)) (hT.mono (by decide)), cutOf_self]
  walk_at "wg"
  simp only [gIsN_b]
  walk_at "wg"
  rw [wp_comp]
  walk_at "wg"
  rw [rng1_i (by decide) (by decide), wpo_some, r2]
  refine comp_draw ?_
  simp only [tgS, wipeS]
  walk_at "wg"
  refine post_t (F_pick_eq (d := d) (b := b + 99) hd (by simp) (by simp)) ?_
  rintro x os' ⟨hx, e, he, rfl⟩
  obtain ⟨E1, s1, rfl⟩ := ends_of (p := p) hx
  refine ⟨_, rfl, ?_⟩
  refine comp_draw ?_
  simp only [tgS, wipeS]
  walk_at "wg"
  refine post_t (F_pick_eq (d := e) (b := b + 98) he (by simp) (by simp)) ?_
  rintro x os' ⟨hx, e2, he2, rfl⟩
  obtain ⟨E2, s2, rfl⟩ := ends_of (p := p) hx
  refine ⟨_, rfl, ?_⟩
  rw [comp_nil]
  walk_at "wg"
  refine ⟨by decide, ?_⟩
  rw [F_grafted_eq 30 C (by omega)]
  walk_at "wg"
  have hTl := hT.len (by decide)
  refine post_t (F_pick_eq (d := e2) (b := b + 97) he2 (xs := T.all.map Tr.dt) (by cases T <;> simp [Tr.all]) (by rw [List.length_map]; omega)) ?_
  rintro x os' ⟨hx, e3, he3, rfl⟩
  obtain ⟨V, hV, rfl⟩ := List.mem_map.mp hx
  walk_at "wg"
  have hdr := F_drawn_eq (os := O3) (n := 2) (a := 1) p0 p1 30 2 (b + 80) e3 (by decide) (he3.le (by omega))
  refine post_t hdr ?_
  rintro x os' ⟨⟨D, rfl, hD1, hD2⟩, e4, he4, rfl⟩
  walk_at "wg"
  rw [F_grafted_eq 30 S (by omega)]
  walk_at "wg"
  rw [rng1_i (by decide) (by decide), wpo_some]
  have s4 : ∀ u ∈ [C.graft E1 E2, V, D, S.graft Y N], Sm p 5 u := by
    intro u hu
    simp only [List.mem_cons, List.not_mem_nil, or_false] at hu
    rcases hu with rfl | rfl | rfl | rfl
    · exact ⟨graft_ok s1.ok s2.ok C hC.ok, by have := graft_deep (y := E1) (n := E2) (k := 0) s1.dp s2.dp C; omega⟩
    · exact hT.all hV
    · exact ⟨hD1, by omega⟩
    · exact ⟨graft_ok hY.ok hN.ok S hS.ok, by have := graft_deep (y := Y) (n := N) (k := 2) dY dN S; omega⟩
  refine wp_forI (fun ws s => ∃ (i : Nat) (h12 h13 h14 h15 : Option W) (e : DS), i ≤ 8 ∧ ws = (List.range' i (8 - i)).map nW ∧ e.ok (b + 2 + 7 * (8 - i)) ∧ s = ⟨[w0, some (.obj 2), h2, some (.d (.int p)), some (.d C.dt), some (.d Y.dt), some (.d N.dt), some (.d T.dt), some (.d S.dt), some (.d (.list (T.all.map Tr.dt))), some (.d (.list [E1.dt, E2.dt])), some (.d (.list ([C.graft E1 E2, V, D, S.graft Y N].map Tr.dt))), h12, h13, h14, h15, h16, h17, h18], Dr O3 2 1 e, []⟩) ?_ ?_ ?_
  · exact ⟨0, h12, h13, h14, h15, e4, by decide, rfl, he4.le (by omega), rfl⟩
  · rintro w ws s ⟨i, h12, h13, h14, h15, e, hi, ew, he, rfl⟩
    obtain ⟨m, hm⟩ : ∃ m, 8 - i = m + 1 := by
      refine ⟨8 - i - 1, ?_⟩
      cases q : 8 - i with
      | zero => rw [q] at ew; cases ew
      | succ m => omega
    rw [hm, List.range'_succ, List.map_cons, List.cons.injEq] at ew
    obtain ⟨rfl, rfl⟩ := ew
    walk_at "wg"
    simp only [nW]
    refine lap_ok (b := b + 2 + 7 * m) (S := [C.graft E1 E2, V, D, S.graft Y N]) (by rw [hm] at he; exact he.le (by omega)) p0 p1 (by omega) (hC.mono (by decide)) hT s4 rfl ?_
    intro h13 h14 h15 e' he'
    refine ⟨i + 1, _, _, _, _, e', by omega, ?_, ?_, rfl⟩
    · rw [show 8 - (i + 1) = m by omega]
    · rw [show 8 - (i + 1) = m by omega]
      exact he'
  · rintro s ⟨i, h12, h13, h14, h15, e, hi, ew, he, rfl⟩
    walk_at "wg"
    refine turnE_ok (b := b) (C := C) (he.le (by omega)) p0 p1 (hY.mono (by decide)) (hN.mono (by decide)) rfl ?_
    intro h16 h17 e' he'
    exact k _ _ _ _ _ _ _ _ _ e' he'
end
end FL
set_option maxHeartbeats 0
namespace FL
open PySem PySem.Spec PyProof.Rows L2
/-! ### what is looked at behind the top -/
def dF (x : Str) (st : Stmt) : He.DefD := ⟨(x, none), x, x, defArgs st, defBody st, defScope st, [], []⟩
def dM (c x q : Str) (st : Stmt) : He.DefD := ⟨(c, some x), x, q, defArgs st, defBody st, defScope st, [], []⟩
def dD (c x q : Str) (st : Stmt) (dv : List He.Dv) : He.DefD := ⟨(c, some x), x, q, defArgs st, defBody st, defScope st, dv, []⟩
def fnL : List He.DefD := [dD "FormError" "__init__" "FormError.__init__" s_FormError___init__ [.str ""],
  dF "_law_error" s__law_error,
  dF "is_number" s_is_number,
  dF "is_below" s_is_below,
  dF "is_figure" s_is_figure,
  dF "headed" s_headed,
  dF "is_name" s_is_name,
  dF "_is_made_of" s__is_made_of,
  dF "need_parts" s_need_parts,
  dF "is_tree_over" s_is_tree_over,
  dF "is_cut" s_is_cut,
  dF "need_tree" s_need_tree,
  dF "_law_begun" s__law_begun,
  dF "_law_mixed" s__law_mixed,
  dF "_law_take" s__law_take,
  dF "_law_pick" s__law_pick,
  dF "_law_led" s__law_led,
  dF "_law_swapped" s__law_swapped,
  dF "_law_reserved" s__law_reserved,
  dF "_law_paths" s__law_paths,
  dF "_law_odd" s__law_odd,
  dF "_law_bent" s__law_bent,
  dF "_law_is_whole" s__law_is_whole,
  dF "_law_is_name" s__law_is_name,
  dF "_law_grafted" s__law_grafted,
  dF "_law_is_tree" s__law_is_tree,
  dF "_law_all_within" s__law_all_within,
  dF "_law_becomes" s__law_becomes,
  dF "_law_is_cut" s__law_is_cut,
  dF "_law_drawn_tree" s__law_drawn_tree,
  dF "_law_no_parts" s__law_no_parts,
  dF "law" s_law,
  dM "Forest" "_matched" "Forest._matched" s_Forest__matched,
  dM "Forest" "entry" "Forest.entry" s_Forest_entry,
  dM "Forest" "is_cut" "Forest.is_cut" s_Forest_is_cut,
  dM "Forest" "match" "Forest.match" s_Forest_match,
  dM "Forest" "put" "Forest.put" s_Forest_put,
  dM "Forest" "tree" "Forest.tree" s_Forest_tree,
  dM "Forest" "within" "Forest.within" s_Forest_within,
  dM "Forest" "__init__" "Forest.__init__" s_Forest___init__]
def faL : List He.Fa := [.free "ValueError", .glo "BadParts", .glo "BadTree", .glo "_law_error", .glo "FormError", .glo "is_number", .glo "is_below", .glo "is_figure", .glo "headed", .glo "is_name", .glo "_is_made_of", .glo "need_parts", .glo "is_tree_over", .glo "is_cut", .glo "need_tree", .glo "_law_begun", .glo "_law_mixed", .glo "_law_take", .glo "_law_pick", .glo "_law_led", .glo "_law_swapped", .glo "_law_reserved", .glo "_law_paths", .glo "_law_odd", .glo "_law_bent", .glo "_law_is_whole", .glo "_law_is_name", .glo "_law_grafted", .glo "_law_is_tree", .glo "_law_all_within", .glo "_law_becomes", .glo "_law_is_cut", .glo "_law_drawn_tree", .glo "_law_no_parts", .glo "law", .cls "Forest", .meth "Forest" "_matched", .meth "Forest" "entry", .meth "Forest" "is_cut", .meth "Forest" "match", .meth "Forest" "put", .meth "Forest" "tree", .meth "Forest" "within", .glo "Forest", .mkr "Forest", .int "YES" 0, .int "NO" 1, .int "MOST_NUMBER" 7, .glo "KEPT", .str "LETTERS" "abcdefghijklmnopqrstuvwxyz", .int "LONGEST" 8, .int "MOST_PARTS" 4, .noat "Forest" "endings", .noat "Forest" "entries", .noat "Forest" "known", .noat "Forest" "matches", .free "isinstance", .free "len", .free "int", .free "bool", .free "str", .free "tuple", .free "list", .free "dict", .free "range", .free "enumerate", .free "zip", .free "min", .free "max", .free "abs", .free "all", .free "any", .free "sum", .free "sorted", .free "repr", .free "set"]
def clsL : List Str := ["BadParts", "BadTree", "Forest"]
def exL (K : PySem.W.Frag) : Bool := noLst K && (veB (PySem.W.findCls K (.type "ValueError") (.type "type") "__init__") && ((errs.all fun x => (He.Fa.glo x).ok K && (rdB K (He.ga K x) && errs.all fun y => ob1 (PySem.W.kitOne K (.ref (He.ga K x)) (.ref (He.ga K y))) (decide (x = y)))) && (errB K (He.ga K "BadParts") && (iniB K "BadParts" "FormError" && (errB K (He.ga K "BadTree") && (iniB K "BadTree" "FormError" && ((errs.all fun x => decide (PySem.W.exmOne K (.ref (He.ga K x)) (.ref (He.ga K "FormError")) = some true)) && (He.tupB K "KEPT" [.str "ask", .str "as", .str "be", .str "bind", .str "book", .str "do", .str "done", .str "each", .str "else", .str "fail", .str "first", .str "form", .str "get", .str "here", .str "if", .str "in", .str "into", .str "less", .str "let", .str "means", .str "next", .str "no", .str "or", .str "pair", .str "part", .str "plus", .str "put", .str "rest", .str "row", .str "second", .str "show", .str "then", .str "try", .str "upon", .str "use", .str "while", .str "with", .str "yes"]))))))))
def tfL : List He.Defn := [("law", none)]
section
variable {P : Program} {w : World} {K : PySem.W.Frag} {h : Heap} {mg : Str → Option Value}
theorem nob_of (KX : K.In h) (G : h.Ns mainGlobals mg) (c : He.SaysD faL fnL K) : NoB mg := ⟨He.free_ok KX G (c.fact 56 rfl), He.free_ok KX G (c.fact 57 rfl), He.free_ok KX G (c.fact 58 rfl), He.free_ok KX G (c.fact 59 rfl), He.free_ok KX G (c.fact 60 rfl), He.free_ok KX G (c.fact 61 rfl), He.free_ok KX G (c.fact 62 rfl), He.free_ok KX G (c.fact 63 rfl), He.free_ok KX G (c.fact 64 rfl), He.free_ok KX G (c.fact 65 rfl), He.free_ok KX G (c.fact 66 rfl), He.free_ok KX G (c.fact 67 rfl), He.free_ok KX G (c.fact 68 rfl), He.free_ok KX G (c.fact 69 rfl), He.free_ok KX G (c.fact 70 rfl), He.free_ok KX G (c.fact 71 rfl), He.free_ok KX G (c.fact 72 rfl), He.free_ok KX G (c.fact 73 rfl), He.free_ok KX G (c.fact 74 rfl), He.free_ok KX G (c.fact 75 rfl)⟩
theorem txt_of (KX : K.In h) (G : h.Ns mainGlobals mg) (c : He.SaysD faL fnL K) (e : exL K = true) {tab : Addr} : Txt (gK P w K clsL tab) mg := by
  obtain ⟨e0, e⟩ := He.ba e
  obtain ⟨e1, e⟩ := He.ba e
  obtain ⟨e2, e⟩ := He.ba e
  obtain ⟨e3, e⟩ := He.ba e
  obtain ⟨e4, e⟩ := He.ba e
  obtain ⟨e5, e⟩ := He.ba e
  obtain ⟨e6, e⟩ := He.ba e
  obtain ⟨e7, e⟩ := He.ba e
  have e8 := e
  exact ⟨He.free_ok KX G (c.fact 0 rfl),
    veB_ok e1,
    kits_of KX G (by decide) e2,
    hasR_of KX G (q := "FormError") (by decide) (c.fact 1 rfl) e3 e4 (c.def_ 0 rfl),
    hasR_of KX G (q := "FormError") (by decide) (c.fact 2 rfl) e5 e6 (c.def_ 0 rfl),
    hasF_of KX G (c.fact 3 rfl) (c.def_ 1 rfl),
    fe_of KX G (c.fact 4 rfl) e7,
    hasF_of KX G (c.fact 5 rfl) (c.def_ 2 rfl),
    hasF_of KX G (c.fact 6 rfl) (c.def_ 3 rfl),
    hasF_of KX G (c.fact 7 rfl) (c.def_ 4 rfl),
    hasF_of KX G (c.fact 8 rfl) (c.def_ 5 rfl),
    hasF_of KX G (c.fact 9 rfl) (c.def_ 6 rfl),
    hasF_of KX G (c.fact 10 rfl) (c.def_ 7 rfl),
    hasF_of KX G (c.fact 11 rfl) (c.def_ 8 rfl),
    hasF_of KX G (c.fact 12 rfl) (c.def_ 9 rfl),
    hasF_of KX G (c.fact 13 rfl) (c.def_ 10 rfl),
    hasF_of KX G (c.fact 14 rfl) (c.def_ 11 rfl),
    hasF_of KX G (c.fact 15 rfl) (c.def_ 12 rfl),
    hasF_of KX G (c.fact 16 rfl) (c.def_ 13 rfl),
    hasF_of KX G (c.fact 17 rfl) (c.def_ 14 rfl),
    hasF_of KX G (c.fact 18 rfl) (c.def_ 15 rfl),
    hasF_of KX G (c.fact 19 rfl) (c.def_ 16 rfl),
    hasF_of KX G (c.fact 20 rfl) (c.def_ 17 rfl),
    hasF_of KX G (c.fact 21 rfl) (c.def_ 18 rfl),
    hasF_of KX G (c.fact 22 rfl) (c.def_ 19 rfl),
    hasF_of KX G (c.fact 23 rfl) (c.def_ 20 rfl),
    hasF_of KX G (c.fact 24 rfl) (c.def_ 21 rfl),
    hasF_of KX G (c.fact 25 rfl) (c.def_ 22 rfl),
    hasF_of KX G (c.fact 26 rfl) (c.def_ 23 rfl),
    hasF_of KX G (c.fact 27 rfl) (c.def_ 24 rfl),
    hasF_of KX G (c.fact 28 rfl) (c.def_ 25 rfl),
    hasF_of KX G (c.fact 29 rfl) (c.def_ 26 rfl),
    hasF_of KX G (c.fact 30 rfl) (c.def_ 27 rfl),
    hasF_of KX G (c.fact 31 rfl) (c.def_ 28 rfl),
    hasF_of KX G (c.fact 32 rfl) (c.def_ 29 rfl),
    hasF_of KX G (c.fact 33 rfl) (c.def_ 30 rfl),
    hasF_of KX G (c.fact 34 rfl) (c.def_ 31 rfl),
    hasM_of (by decide) (c.fact 35 rfl) (c.fact 36 rfl) (c.def_ 32 rfl),
    hasM_of (by decide) (c.fact 35 rfl) (c.fact 37 rfl) (c.def_ 33 rfl),
    hasM_of (by decide) (c.fact 35 rfl) (c.fact 38 rfl) (c.def_ 34 rfl),
    hasM_of (by decide) (c.fact 35 rfl) (c.fact 39 rfl) (c.def_ 35 rfl),
    hasM_of (by decide) (c.fact 35 rfl) (c.fact 40 rfl) (c.def_ 36 rfl),
    hasM_of (by decide) (c.fact 35 rfl) (c.fact 41 rfl) (c.def_ 37 rfl),
    hasM_of (by decide) (c.fact 35 rfl) (c.fact 42 rfl) (c.def_ 38 rfl),
    hasK_of KX G (by decide) (c.fact 43 rfl) (c.fact 44 rfl) (c.def_ 39 rfl),
    gloI_of KX G (c.fact 45 rfl),
    gloI_of KX G (c.fact 46 rfl),
    gloI_of KX G (c.fact 47 rfl),
    gloT_of KX G (c.fact 48 rfl) e8 rfl,
    gloS_of KX G (c.fact 49 rfl),
    gloI_of KX G (c.fact 50 rfl),
    gloI_of KX G (c.fact 51 rfl),
    cls_of (by decide) (c.fact 35 rfl) (c.fact 52 rfl),
    cls_of (by decide) (c.fact 35 rfl) (c.fact 53 rfl),
    cls_of (by decide) (c.fact 35 rfl) (c.fact 54 rfl),
    cls_of (by decide) (c.fact 35 rfl) (c.fact 55 rfl)⟩
theorem code_of {g : G} {f : Addr} {fd : FuncData} {x q : Str} {st : Stmt} (F : Fun g.K x q st f fd) (hf : f = He.ga g.K "law") : codeAt g.K f = some (.ref (He.codeOf g.K ("law", none))) := by
  obtain ⟨oc, od, kV, doc, pm, an, cdv, ct, osl, rfl, lk, hcd⟩ := F.ex
  obtain ⟨c, rfl⟩ := He.codeIn_ref hcd
  subst hf
  have e := He.codeOf_eq (p := ("law", none)) (c := c) lk rfl
  unfold codeAt
  rw [lk, e] <;> rfl
/-- the law, told by its function -/
def LawTrue : Prop := ∀ ns : List Int, ns.length ≤ 63 → ∃ os' es, runF 19 b_law [.d (.list (ns.map .int))] [.tab "law.<locals>.<lambda>"] = some (.ok (.d (.bool true)) os' es)
theorem law_at (l : PySem.W.OpenLaw) (T : LawTrue) {fa : Addr} (KX : K.In h) (G : h.Ns mainGlobals mg) (c : SaysF faL fnL tfL exL h K) (hmg : mg "law" = some (.ref fa)) : LamX.LawAtS l w K (L2.CX l.prog w) 36 63 "script" mg fa h := by
  have cx := c.e
  have c0 := c
  have c := c.d
  have efa : fa = He.ga K "law" := Value.ref.inj (Option.some.inj (hmg.symm.trans (He.glo_ok KX G (c.fact 34 rfl))))
  obtain ⟨fd, D⟩ := (c.def_ 31 rfl)
  have F : Fun K "law" "law" s_law (He.ga K "law") fd := He5.fun_of D
  subst efa
  have mem : (("law", none) : He.Defn) ∈ tfL := List.mem_cons_self
  refine ⟨fd, [He.cT K ("law", none)], spL (gK l.prog w K clsL (He.cT K ("law", none)).2) 1 (runF 19 b_law), fun p hp => ?_, fun p hp => ?_, fun p hp => ?_, fun s u => ?_, fun H a ns hl _ ht hS => ?_, fun base HB HN TB => ?_⟩
  · rw [List.mem_singleton.mp hp]; exact (c0.t _ mem).2.2
  · rw [List.mem_singleton.mp hp]; exact (c0.t _ mem).2.1
  · rw [List.mem_singleton.mp hp]; exact PySem.W.codeHd_of_K KX (c0.t _ mem).1
  · obtain ⟨oc, od, kV, doc, pm, an, cdv, ct, osl, rfl, lk, hcd⟩ := F.ex
    exact .of_eq rfl
  · exact spL_start (g := gK l.prog w K clsL (He.cT K ("law", none)).2) (He.ba cx).1 (ht _ List.mem_cons_self) hS (T ns hl)
  · exact d_law (g := gK l.prog w K clsL (He.cT K ("law", none)).2) (txt_of KX G c cx) (nob_of KX G c) F (code_of (g := gK l.prog w K clsL (He.cT K ("law", none)).2) F rfl) (TB _ List.mem_cons_self)
end
end FL
namespace FrHead
open PySem PySem.W PySem.Calls PyProof.Rows
abbrev R : OpenRow := OpenLaw.row PySem.Challenge.rw_formrules_k80_cuts_of_trees
def n0 : List PySem.Str := ["_wall", "FormError", "BadParts", "BadTree", "YES", "NO", "Forest", "MOST_NUMBER", "is_number", "is_below", "is_figure", "headed", "KEPT", "LETTERS", "LONGEST", "is_name", "_is_made_of", "MOST_PARTS", "need_parts", "is_tree_over", "is_cut", "need_tree", "_law_begun", "_law_mixed", "_law_take", "_law_pick", "_law_led", "_law_swapped", "_law_reserved", "_law_paths"]
def n1 : List PySem.Str := ["_law_odd", "_law_bent", "_law_is_whole", "_law_is_name", "_law_error", "_law_grafted", "_law_is_tree", "_law_all_within", "_law_becomes", "_law_is_cut", "_law_drawn_tree", "_law_no_parts"]
def names : List PySem.Str := n0 ++ n1
abbrev qv : Program := view R.prog [49]
abbrev hk : Hook := FL.hkF 6 FL.faL FL.fnL FL.tfL FL.exL
def ob (s : SharedT) : He.AlD × Bool := FL.obF 6 FL.faL FL.fnL FL.tfL FL.exL (HandSHeadRun.getT s)
theorem ob_eq (s : SharedT) : ob s = hk.obs s.abs := FL.obF_eq (HandSHeadRun.getT_eq s)
theorem run (w : World) : HandSHeadRun.RunEq R qv hk ob 20000 names w := by
  intro os
  kernel_rfl
end FrHead
namespace FL
open PySem PySem.Spec PyProof.Rows L2
local macro_rules | `(tactic| walk_at "wp") => `(tactic| simp only [wp_var, wp_C, wp_nil, wp_cons, wp_op1, wp_op2, wp_opn, wp_tup, wp_lst, wp_box, wp_truth, wp_bool, wp_andT, wp_orT, wp_notT, wp_andV, wp_orV, wp_notV, wp_ifE, wp_seq, nxt_nx, nxt_rt, nxt_bk, nxt_ct, wp_next, wp_brk, wp_cnt, wp_expr, wp_ret, wp_retN, wp_if, wp_asg, wp_gset, wp_par, wp_sub, wp_setFld, wp_call, wp_meth, wp_make, wp_chain, wp_noP, wp_part, wp_sl, wp_rev, wp_ef, wp_new, wp_it, wp_rng, wp_frz, wp_for, wp_tupF, wp_nilF, wp_consF, wp_yes, wpo_some, wpo_none, post_ok, post_ex, start0_eq, ends_nx, ends_rt, List.getElem?_cons_zero, List.getElem?_cons_succ, List.set_cons_zero, List.set_cons_succ, List.map_cons, List.map_nil, List.length_cons, List.length_nil, List.cons_append, List.nil_append, List.append_nil, Nat.sub_self, Nat.zero_add, Nat.reduceAdd, Nat.reduceSub, List.replicate_succ, List.replicate_zero, true_and, and_true, forall_const, reduceCtorEq, false_implies, implies_true, Bool.true_eq_false, Bool.false_eq_true, Bool.not_true, Bool.not_false])
local macro_rules | `(tactic| walk_at "wq") => `(tactic| simp only [wp_var, wp_C, wp_nil, wp_cons, wp_op1, wp_op2, wp_opn, wp_tup, wp_lst, wp_box, wp_truth, wp_bool, wp_andT, wp_orT, wp_notT, wp_andV, wp_orV, wp_notV, wp_ifE, wp_seq, nxt_nx, nxt_rt, nxt_bk, nxt_ct, wp_next, wp_brk, wp_cnt, wp_expr, wp_ret, wp_retN, wp_if, wp_asg, wp_gset, wp_par, wp_sub, wp_setFld, wp_call, wp_meth, wp_make, wp_chain, wp_noP, wp_part, wp_sl, wp_rev, wp_ef, wp_new, wp_it, wp_rng, wp_frz, wp_for, wp_tupF, wp_nilF, wp_consF, wp_yes, wpo_some, wpo_none, post_ok, post_ex, start0_eq, ends_nx, ends_rt, List.getElem?_cons_zero, List.getElem?_cons_succ, List.set_cons_zero, List.set_cons_succ, List.map_cons, List.map_nil, List.length_cons, List.length_nil, List.cons_append, List.nil_append, List.append_nil, Nat.sub_self, Nat.zero_add, Nat.reduceAdd, Nat.reduceSub, List.replicate_succ, List.replicate_zero, true_and, and_true, forall_const, reduceCtorEq, false_implies, implies_true, Bool.true_eq_false, Bool.false_eq_true, Bool.not_true, Bool.not_false, tupO_0, tupO_1, tupO_2, tupO_3, tupO_4, tupO_5, tupO_6, tupO_7, tupO_8, tupO_9, tupO_10, tupO_11, tupO_12, tupO_13, tupO_14, tupO_15, tupO_16, lstO_0, lstO_1, lstO_2, lstO_3, lstO_4, lstO_5, lstO_6, lstO_7, lstO_8, lstO_9, lstO_10, lstO_11, lstO_12, lstO_13, lstO_14, lstO_15, lstO_16, gInA_s2T, gInA_s2L, gInA_i2T, gIs_d, truth_b, truth_t, boolW_b, intW_i, gIxA_t, gIxA_l, gAdd_i, gLe_i, gLt_i, gGt_i, gGe_i, gMinus_i, gEqA_s, gEqA_i, gNe_i, gNe_s, gLen_t, gLen_l, atI_0, atI_1, atI_2, atI_3, cut2, Option.map_some, Option.bind_some, decide_true, decide_false, Bool.not_true, Bool.not_false, Bool.and_true, Bool.true_and, Bool.and_false, Bool.false_and, Bool.or_true, Bool.or_false, Bool.true_or, Bool.false_or, fin_d, allNew_nil, if_true, List.take_length, set_last, rest_last, Bool.bne_true, Bool.true_bne, Bool.false_bne, Bool.bne_false, turn_nx, turn_rt, turn_ct, turn_bk, eq_self, Bool.and_self, Bool.or_self])
local macro_rules | `(tactic| walk_at "wt") => `(tactic| simp only [wp_var, wp_C, wp_nil, wp_cons, wp_op1, wp_op2, wp_opn, wp_tup, wp_lst, wp_box, wp_truth, wp_bool, wp_andT, wp_orT, wp_notT, wp_andV, wp_orV, wp_notV, wp_ifE, wp_seq, nxt_nx, nxt_rt, nxt_bk, nxt_ct, wp_next, wp_brk, wp_cnt, wp_expr, wp_ret, wp_retN, wp_if, wp_asg, wp_gset, wp_par, wp_sub, wp_setFld, wp_call, wp_meth, wp_make, wp_chain, wp_noP, wp_part, wp_sl, wp_rev, wp_ef, wp_new, wp_it, wp_rng, wp_frz, wp_for, wp_tupF, wp_nilF, wp_consF, wp_yes, wpo_some, wpo_none, post_ok, post_ex, start0_eq, ends_nx, ends_rt, List.getElem?_cons_zero, List.getElem?_cons_succ, List.set_cons_zero, List.set_cons_succ, List.map_cons, List.map_nil, List.length_cons, List.length_nil, List.cons_append, List.nil_append, List.append_nil, Nat.sub_self, Nat.zero_add, Nat.reduceAdd, Nat.reduceSub, List.replicate_succ, List.replicate_zero, true_and, and_true, forall_const, reduceCtorEq, false_implies, implies_true, Bool.true_eq_false, Bool.false_eq_true, Bool.not_true, Bool.not_false, tupO_0, tupO_1, tupO_2, tupO_3, tupO_4, tupO_5, tupO_6, tupO_7, tupO_8, tupO_9, tupO_10, tupO_11, tupO_12, tupO_13, tupO_14, tupO_15, tupO_16, lstO_0, lstO_1, lstO_2, lstO_3, lstO_4, lstO_5, lstO_6, lstO_7, lstO_8, lstO_9, lstO_10, lstO_11, lstO_12, lstO_13, lstO_14, lstO_15, lstO_16, gInA_s2T, gInA_s2L, gInA_i2T, gIs_d, truth_b, truth_t, boolW_b, intW_i, gIxA_t, gIxA_l, gAdd_i, gLe_i, gLt_i, gGt_i, gGe_i, gMinus_i, gEqA_s, gEqA_i, gNe_i, gNe_s, gLen_t, gLen_l, atI_0, atI_1, atI_2, atI_3, cut2, Option.map_some, Option.bind_some, decide_true, decide_false, Bool.not_true, Bool.not_false, Bool.and_true, Bool.true_and, Bool.and_false, Bool.false_and, Bool.or_true, Bool.or_false, Bool.true_or, Bool.false_or, fin_d, allNew_nil, if_true, List.take_length, set_last, rest_last, Bool.bne_true, Bool.true_bne, Bool.false_bne, Bool.bne_false, turn_nx, turn_rt, turn_ct, turn_bk, eq_self, Bool.and_self, Bool.or_self, ne_yes_no, ne_yes_fails, ne_yes_shows, ne_yes_does, ne_yes_wants, ne_no_yes, ne_no_fails, ne_no_shows, ne_no_does, ne_no_wants, ne_fails_yes, ne_fails_no, ne_fails_shows, ne_fails_does, ne_fails_wants, ne_shows_yes, ne_shows_no, ne_shows_fails, ne_shows_does, ne_shows_wants, ne_does_yes, ne_does_no, ne_does_fails, ne_does_shows, ne_does_wants, ne_wants_yes, ne_wants_no, ne_wants_fails, ne_wants_shows, ne_wants_does])
local macro_rules | `(tactic| walk_at "wd") => `(tactic| simp only [wp_var, wp_C, wp_nil, wp_cons, wp_op1, wp_op2, wp_opn, wp_tup, wp_lst, wp_box, wp_truth, wp_bool, wp_andT, wp_orT, wp_notT, wp_andV, wp_orV, wp_notV, wp_ifE, wp_seq, nxt_nx, nxt_rt, nxt_bk, nxt_ct, wp_next, wp_brk, wp_cnt, wp_expr, wp_ret, wp_retN, wp_if, wp_asg, wp_gset, wp_par, wp_sub, wp_setFld, wp_call, wp_meth, wp_make, wp_chain, wp_noP, wp_part, wp_sl, wp_rev, wp_ef, wp_new, wp_it, wp_rng, wp_frz, wp_for, wp_tupF, wp_nilF, wp_consF, wp_yes, wpo_some, wpo_none, post_ok, post_ex, start0_eq, ends_nx, ends_rt, List.getElem?_cons_zero, List.getElem?_cons_succ, List.set_cons_zero, List.set_cons_succ, List.map_cons, List.map_nil, List.length_cons, List.length_nil, List.cons_append, List.nil_append, List.append_nil, Nat.sub_self, Nat.zero_add, Nat.reduceAdd, Nat.reduceSub, List.replicate_succ, List.replicate_zero, true_and, and_true, forall_const, reduceCtorEq, false_implies, implies_true, Bool.true_eq_false, Bool.false_eq_true, Bool.not_true, Bool.not_false, tupO_0, tupO_1, tupO_2, tupO_3, tupO_4, tupO_5, tupO_6, tupO_7, tupO_8, tupO_9, tupO_10, tupO_11, tupO_12, tupO_13, tupO_14, tupO_15, tupO_16, lstO_0, lstO_1, lstO_2, lstO_3, lstO_4, lstO_5, lstO_6, lstO_7, lstO_8, lstO_9, lstO_10, lstO_11, lstO_12, lstO_13, lstO_14, lstO_15, lstO_16, gInA_s2T, gInA_s2L, gInA_i2T, gIs_d, truth_b, truth_t, boolW_b, intW_i, gIxA_t, gIxA_l, gAdd_i, gLe_i, gLt_i, gGt_i, gGe_i, gMinus_i, gEqA_s, gEqA_i, gNe_i, gNe_s, gLen_t, gLen_l, atI_0, atI_1, atI_2, atI_3, cut2, Option.map_some, Option.bind_some, decide_true, decide_false, Bool.not_true, Bool.not_false, Bool.and_true, Bool.true_and, Bool.and_false, Bool.false_and, Bool.or_true, Bool.or_false, Bool.true_or, Bool.false_or, fin_d, allNew_nil, if_true, List.take_length, set_last, rest_last, Bool.bne_true, Bool.true_bne, Bool.false_bne, Bool.bne_false, turn_nx, turn_rt, turn_ct, turn_bk, eq_self, Bool.and_self, Bool.or_self, ne_yes_no, ne_yes_fails, ne_yes_shows, ne_yes_does, ne_yes_wants, ne_no_yes, ne_no_fails, ne_no_shows, ne_no_does, ne_no_wants, ne_fails_yes, ne_fails_no, ne_fails_shows, ne_fails_does, ne_fails_wants, ne_shows_yes, ne_shows_no, ne_shows_fails, ne_shows_does, ne_shows_wants, ne_does_yes, ne_does_no, ne_does_fails, ne_does_shows, ne_does_wants, ne_wants_yes, ne_wants_no, ne_wants_fails, ne_wants_shows, ne_wants_does, isT_bool_NoneType, isT_bool_bool, isT_bool_int, isT_bool_str, isT_bool_tuple, isT_bool_list, isT_bool_dict, isT_int_NoneType, isT_int_bool, isT_int_int, isT_int_str, isT_int_tuple, isT_int_list, isT_int_dict, isT_str_NoneType, isT_str_bool, isT_str_int, isT_str_str, isT_str_tuple, isT_str_list, isT_str_dict, isT_tuple_NoneType, isT_tuple_bool, isT_tuple_int, isT_tuple_str, isT_tuple_tuple, isT_tuple_list, isT_tuple_dict, isT_list_NoneType, isT_list_bool, isT_list_int, isT_list_str, isT_list_tuple, isT_list_list, isT_list_dict, isT_dict_NoneType, isT_dict_bool, isT_dict_int, isT_dict_str, isT_dict_tuple, isT_dict_list, isT_dict_dict, tyD_none, tyD_bool, tyD_int, tyD_str, tyD_tuple, tyD_list, tyD_dict, Dr_wide, Dr_cells, Dr_rest, Dr_turn, Dr_setT, Dr_setR, Dr_wideNe, gInt_i, gAbs_i, gMod_i, gDiv_i, gMul_l, gMul_r, gPow_i, endsP_rt, endsP_nx, ret_ok, seqW_l, seqW_t, take_len, take_len2, Int.reduceLT, Int.reduceLE, Int.reducePow, Int.reduceNeg, Int.reduceToNat, Int.reduceSub, Int.reduceAdd])
local macro_rules | `(tactic| walk_at "wf") => `(tactic| simp only [wp_var, wp_C, wp_nil, wp_cons, wp_op1, wp_op2, wp_opn, wp_tup, wp_lst, wp_box, wp_truth, wp_bool, wp_andT, wp_orT, wp_notT, wp_andV, wp_orV, wp_notV, wp_ifE, wp_seq, nxt_nx, nxt_rt, nxt_bk, nxt_ct, wp_next, wp_brk, wp_cnt, wp_expr, wp_ret, wp_retN, wp_if, wp_asg, wp_gset, wp_par, wp_sub, wp_setFld, wp_call, wp_meth, wp_make, wp_chain, wp_noP, wp_part, wp_sl, wp_rev, wp_ef, wp_new, wp_it, wp_rng, wp_frz, wp_for, wp_tupF, wp_nilF, wp_consF, wp_yes, wpo_some, wpo_none, post_ok, post_ex, start0_eq, ends_nx, ends_rt, List.getElem?_cons_zero, List.getElem?_cons_succ, List.set_cons_zero, List.set_cons_succ, List.map_cons, List.map_nil, List.length_cons, List.length_nil, List.cons_append, List.nil_append, List.append_nil, Nat.sub_self, Nat.zero_add, Nat.reduceAdd, Nat.reduceSub, List.replicate_succ, List.replicate_zero, true_and, and_true, forall_const, reduceCtorEq, false_implies, implies_true, Bool.true_eq_false, Bool.false_eq_true, Bool.not_true, Bool.not_false, tupO_0, tupO_1, tupO_2, tupO_3, tupO_4, tupO_5, tupO_6, tupO_7, tupO_8, tupO_9, tupO_10, tupO_11, tupO_12, tupO_13, tupO_14, tupO_15, tupO_16, lstO_0, lstO_1, lstO_2, lstO_3, lstO_4, lstO_5, lstO_6, lstO_7, lstO_8, lstO_9, lstO_10, lstO_11, lstO_12, lstO_13, lstO_14, lstO_15, lstO_16, gInA_s2T, gInA_s2L, gInA_i2T, gIs_d, truth_b, truth_t, boolW_b, intW_i, gIxA_t, gIxA_l, gAdd_i, gLe_i, gLt_i, gGt_i, gGe_i, gMinus_i, gEqA_s, gEqA_i, gNe_i, gNe_s, gLen_t, gLen_l, atI_0, atI_1, atI_2, atI_3, cut2, Option.map_some, Option.bind_some, decide_true, decide_false, Bool.not_true, Bool.not_false, Bool.and_true, Bool.true_and, Bool.and_false, Bool.false_and, Bool.or_true, Bool.or_false, Bool.true_or, Bool.false_or, fin_d, allNew_nil, if_true, List.take_length, set_last, rest_last, Bool.bne_true, Bool.true_bne, Bool.false_bne, Bool.bne_false, turn_nx, turn_rt, turn_ct, turn_bk, eq_self, Bool.and_self, Bool.or_self, ne_yes_no, ne_yes_fails, ne_yes_shows, ne_yes_does, ne_yes_wants, ne_no_yes, ne_no_fails, ne_no_shows, ne_no_does, ne_no_wants, ne_fails_yes, ne_fails_no, ne_fails_shows, ne_fails_does, ne_fails_wants, ne_shows_yes, ne_shows_no, ne_shows_fails, ne_shows_does, ne_shows_wants, ne_does_yes, ne_does_no, ne_does_fails, ne_does_shows, ne_does_wants, ne_wants_yes, ne_wants_no, ne_wants_fails, ne_wants_shows, ne_wants_does, isT_bool_NoneType, isT_bool_bool, isT_bool_int, isT_bool_str, isT_bool_tuple, isT_bool_list, isT_bool_dict, isT_int_NoneType, isT_int_bool, isT_int_int, isT_int_str, isT_int_tuple, isT_int_list, isT_int_dict, isT_str_NoneType, isT_str_bool, isT_str_int, isT_str_str, isT_str_tuple, isT_str_list, isT_str_dict, isT_tuple_NoneType, isT_tuple_bool, isT_tuple_int, isT_tuple_str, isT_tuple_tuple, isT_tuple_list, isT_tuple_dict, isT_list_NoneType, isT_list_bool, isT_list_int, isT_list_str, isT_list_tuple, isT_list_list, isT_list_dict, isT_dict_NoneType, isT_dict_bool, isT_dict_int, isT_dict_str, isT_dict_tuple, isT_dict_list, isT_dict_dict, tyD_none, tyD_bool, tyD_int, tyD_str, tyD_tuple, tyD_list, tyD_dict, Dr_wide, Dr_cells, Dr_rest, Dr_turn, Dr_setT, Dr_setR, Dr_wideNe, gInt_i, gAbs_i, gMod_i, gDiv_i, gMul_l, gMul_r, gPow_i, endsP_rt, endsP_nx, ret_ok, seqW_l, seqW_t, take_len, take_len2, Int.reduceLT, Int.reduceLE, Int.reducePow, Int.reduceNeg, Int.reduceToNat, Int.reduceSub, Int.reduceAdd, Fo_entries, Fo_known, Fo_matches, Fo_cls, Fo_put, Fo_entry, Fo_within, Fo_match, Fo_matched, Fo_iscut])
local macro_rules | `(tactic| walk_at "wg") => `(tactic| simp only [wp_var, wp_C, wp_nil, wp_cons, wp_op1, wp_op2, wp_opn, wp_tup, wp_lst, wp_box, wp_truth, wp_bool, wp_andT, wp_orT, wp_notT, wp_andV, wp_orV, wp_notV, wp_ifE, wp_seq, nxt_nx, nxt_rt, nxt_bk, nxt_ct, wp_next, wp_brk, wp_cnt, wp_expr, wp_ret, wp_retN, wp_if, wp_asg, wp_gset, wp_par, wp_sub, wp_setFld, wp_call, wp_meth, wp_make, wp_chain, wp_noP, wp_part, wp_sl, wp_rev, wp_ef, wp_new, wp_it, wp_rng, wp_frz, wp_for, wp_tupF, wp_nilF, wp_consF, wp_yes, wpo_some, wpo_none, post_ok, post_ex, start0_eq, ends_nx, ends_rt, List.getElem?_cons_zero, List.getElem?_cons_succ, List.set_cons_zero, List.set_cons_succ, List.map_cons, List.map_nil, List.length_cons, List.length_nil, List.cons_append, List.nil_append, List.append_nil, Nat.sub_self, Nat.zero_add, Nat.reduceAdd, Nat.reduceSub, List.replicate_succ, List.replicate_zero, true_and, and_true, forall_const, reduceCtorEq, false_implies, implies_true, Bool.true_eq_false, Bool.false_eq_true, Bool.not_true, Bool.not_false, tupO_0, tupO_1, tupO_2, tupO_3, tupO_4, tupO_5, tupO_6, tupO_7, tupO_8, tupO_9, tupO_10, tupO_11, tupO_12, tupO_13, tupO_14, tupO_15, tupO_16, lstO_0, lstO_1, lstO_2, lstO_3, lstO_4, lstO_5, lstO_6, lstO_7, lstO_8, lstO_9, lstO_10, lstO_11, lstO_12, lstO_13, lstO_14, lstO_15, lstO_16, gInA_s2T, gInA_s2L, gInA_i2T, gIs_d, truth_b, truth_t, boolW_b, intW_i, gIxA_t, gIxA_l, gAdd_i, gLe_i, gLt_i, gGt_i, gGe_i, gMinus_i, gEqA_s, gEqA_i, gNe_i, gNe_s, gLen_t, gLen_l, atI_0, atI_1, atI_2, atI_3, cut2, Option.map_some, Option.bind_some, decide_true, decide_false, Bool.not_true, Bool.not_false, Bool.and_true, Bool.true_and, Bool.and_false, Bool.false_and, Bool.or_true, Bool.or_false, Bool.true_or, Bool.false_or, fin_d, allNew_nil, if_true, List.take_length, set_last, rest_last, Bool.bne_true, Bool.true_bne, Bool.false_bne, Bool.bne_false, turn_nx, turn_rt, turn_ct, turn_bk, eq_self, Bool.and_self, Bool.or_self, ne_yes_no, ne_yes_fails, ne_yes_shows, ne_yes_does, ne_yes_wants, ne_no_yes, ne_no_fails, ne_no_shows, ne_no_does, ne_no_wants, ne_fails_yes, ne_fails_no, ne_fails_shows, ne_fails_does, ne_fails_wants, ne_shows_yes, ne_shows_no, ne_shows_fails, ne_shows_does, ne_shows_wants, ne_does_yes, ne_does_no, ne_does_fails, ne_does_shows, ne_does_wants, ne_wants_yes, ne_wants_no, ne_wants_fails, ne_wants_shows, ne_wants_does, isT_bool_NoneType, isT_bool_bool, isT_bool_int, isT_bool_str, isT_bool_tuple, isT_bool_list, isT_bool_dict, isT_int_NoneType, isT_int_bool, isT_int_int, isT_int_str, isT_int_tuple, isT_int_list, isT_int_dict, isT_str_NoneType, isT_str_bool, isT_str_int, isT_str_str, isT_str_tuple, isT_str_list, isT_str_dict, isT_tuple_NoneType, isT_tuple_bool, isT_tuple_int, isT_tuple_str, isT_tuple_tuple, isT_tuple_list, isT_tuple_dict, isT_list_NoneType, isT_list_bool, isT_list_int, isT_list_str, isT_list_tuple, isT_list_list, isT_list_dict, isT_dict_NoneType, isT_dict_bool, isT_dict_int, isT_dict_str, isT_dict_tuple, isT_dict_list, isT_dict_dict, tyD_none, tyD_bool, tyD_int, tyD_str, tyD_tuple, tyD_list, tyD_dict, Dr_wide, Dr_cells, Dr_rest, Dr_turn, Dr_setT, Dr_setR, Dr_wideNe, gInt_i, gAbs_i, gMod_i, gDiv_i, gMul_l, gMul_r, gPow_i, endsP_rt, endsP_nx, ret_ok, seqW_l, seqW_t, take_len, take_len2, Int.reduceLT, Int.reduceLE, Int.reducePow, Int.reduceNeg, Int.reduceToNat, Int.reduceSub, Int.reduceAdd, Fo_entries, Fo_known, Fo_matches, Fo_cls, Fo_put, Fo_entry, Fo_within, Fo_match, Fo_matched, Fo_iscut, wp_parT, wp_callK, wp_raise, wp_lstF])
section
variable {Q : Fl → AS → Prop} {X : Ex → AS → Prop}
theorem dLit {m : Nat} {d : DS} {b : Nat} {p : Int} (p0 : 0 < p) (p1 : p ≤ 4) (h : d.ok (b + (4 * 2 ^ m - 2))) (hm : m < 30) : Tells (F__law_drawn_tree 30) [.obj 2, .d (.int p), .d (.int (m : Int))] (Dr O3 2 1 d) fun x os' => (∃ t : Tr, x = t.dt ∧ t.ok p = true ∧ t.deep ≤ m) ∧ Dn O3 2 1 b os' := F_drawn_eq (os := O3) (n := 2) (a := 1) p0 p1 30 m b d hm h
set_option maxHeartbeats 8000000 in
theorem turn_ok {b : Nat} {d : DS} {w0 h2 h3 h4 h5 h6 h7 h8 h9 h10 h11 h12 h13 h14 h15 h16 h17 h18 : Option W} (hd : d.ok (b + 180))
    (k : ∀ (h3 h4 h5 h6 h7 h8 h9 h10 h11 h12 h13 h14 h15 h16 h17 : Option W) (e : DS), e.ok b → Q .nx ⟨[w0, some (.obj 2), h2, h3, h4, h5, h6, h7, h8, h9, h10, h11, h12, h13, h14, h15, h16, h17, h18], Dr O3 2 1 e, []⟩) :
    wp turnB ⟨[w0, some (.obj 2), h2, h3, h4, h5, h6, h7, h8, h9, h10, h11, h12, h13, h14, h15, h16, h17, h18], Dr O3 2 1 d, []⟩ Q X := by
  unfold turnB
  walk_at "wg"
  refine post_t (F_take_eq (os := O3) (n := 2) (a := 1) (b := b + 179) hd (m := 4) (by decide) (by decide)) ?_
  rintro x os' ⟨⟨i, rfl, i0, i1⟩, e, he, rfl⟩
  walk_at "wg"
  have p0 : 0 < 1 + i := by omega
  have p1 : 1 + i ≤ 4 := by omega
  generalize 1 + i = p at p0 p1
  rw [wp_comp]
  walk_at "wg"
  rw [rng1_i (by decide) (by decide), wpo_some, r3]
  refine comp_draw ?_
  simp only [tgS, wipeS]
  walk_at "wg"
  refine post_t (dLit (m := 2) (b := b + 165) p0 p1 (he.le (by omega)) (by decide)) ?_
  rintro x os' ⟨⟨C, rfl, c1, c2⟩, e2, he2, rfl⟩
  refine ⟨_, rfl, ?_⟩
  refine comp_draw ?_
  simp only [tgS, wipeS]
  walk_at "wg"
  refine post_t (dLit (m := 2) (b := b + 151) p0 p1 (he2.le (by omega)) (by decide)) ?_
  rintro x os' ⟨⟨Y, rfl, y1, y2⟩, e3, he3, rfl⟩
  refine ⟨_, rfl, ?_⟩
  refine comp_draw ?_
  simp only [tgS, wipeS]
  walk_at "wg"
  refine post_t (dLit (m := 2) (b := b + 137) p0 p1 (he3.le (by omega)) (by decide)) ?_
  rintro x os' ⟨⟨N, rfl, n1, n2⟩, e4, he4, rfl⟩
  refine ⟨_, rfl, ?_⟩
  rw [comp_nil]
  walk_at "wg"
  refine ⟨by decide, ?_⟩
  try rw [wp_lstF]
  try walk_at "wg"
  rw [F_grafted_eq 30 C (by omega)]
  walk_at "wg"
  refine post_t (dLit (m := 1) (b := b + 131) p0 p1 (he4.le (by omega)) (by decide)) ?_
  rintro x os' ⟨⟨S, rfl, s1, s2⟩, e5, he5, rfl⟩
  walk_at "wg"
  have dg := graft_deep (y := Y) (n := N) (k := 2) y2 n2 C
  have og := graft_ok y1 n1 C c1
  have fin : ∀ (T : Tr) (e : DS), Sm p 5 T → C.graft Y N ∈ T.all → e.ok (b + 100) → wp turnR ⟨[w0, some (.obj 2), h2, some (.d (.int p)), some (.d C.dt), some (.d Y.dt), some (.d N.dt), some (.d T.dt), some (.d S.dt), h9, h10, h11, h12, h13, h14, h15, h16, h17, h18], Dr O3 2 1 e, []⟩ Q X := by
    intro T e hT hg he
    refine turnR_ok he p0 p1 ⟨c1, c2⟩ ⟨y1, y2⟩ ⟨n1, n2⟩ hT ⟨s1, s2⟩ hg ?_
    intro h9 h10 h11 h12 h13 h14 h15 h16 h17 e he
    exact k _ _ _ _ _ _ _ _ _ _ _ _ _ _ _ e he
  refine post_t (F_take_eq (os := O3) (n := 2) (a := 1) (b := b + 130) he5 (m := 2) (by decide) (by decide)) ?_
  rintro x os' ⟨⟨j, rfl, j0, j1⟩, e6, he6, rfl⟩
  walk_at "wg"
  refine ⟨fun _ => ?_, fun _ => fin _ e6 ⟨og, by omega⟩ (self_mem _) (he6.le (by omega))⟩
  refine post_t (F_take_eq (os := O3) (n := 2) (a := 1) (b := b + 129) he6 (m := 2) (by decide) (by decide)) ?_
  rintro x os' ⟨⟨l, rfl, l0, l1⟩, e7, he7, rfl⟩
  walk_at "wg"
  refine ⟨fun _ => ?_, fun _ => ?_⟩
  · refine post_t (F_take_eq (os := O3) (n := 2) (a := 1) (b := b + 128) he7 (m := p) p0 (by omega)) ?_
    rintro x os' ⟨⟨m, rfl, m0, m1⟩, e8, he8, rfl⟩
    walk_at "wg"
    refine fin (.does m S (C.graft Y N)) e8 ⟨?_, ?_⟩ ?_ (he8.le (by omega))
    · refine Bool.and_eq_true_iff.mpr ⟨?_, Bool.and_eq_true_iff.mpr ⟨s1, og⟩⟩
      show (decide (0 ≤ m) && decide (m < p)) = true
      rw [Bool.and_eq_true_iff, decide_eq_true_iff, decide_eq_true_iff]
      exact ⟨m0, m1⟩
    · simp only [Tr.deep]; omega
    · simp [Tr.all, self_mem]
  · refine fin (.shows 1 (C.graft Y N)) e7 ⟨Bool.and_eq_true_iff.mpr ⟨rfl, og⟩, ?_⟩ ?_ (he7.le (by omega))
    · simp only [Tr.deep]; omega
    · simp [Tr.all, self_mem]
end
theorem law_true : LawTrue := by
  intro ns hn
  have goal : Tells (runF 19 b_law) [.d (.list (ns.map .int))] [.tab "law.<locals>.<lambda>"] fun x _ => x = .bool true := by
    refine Tells.run ?_
    show wp (mSeq (mAsg (mCall 1 F__law_begun (mCons (mVar 0) mNil)) (gSet 1)) (mSeq (mFor (mRng rng1 (mCons (mOp2 gAdd (mC (.int 3)) (mOpn gMin2 (mCons (mOpn gLen (mCons (mVar 0) mNil)) (mCons (mC (.int 3)) mNil)))) mNil)) (gSet 2) turnB) (mRet (mC (.bool true))))) _ _ _
    walk_at "wg"
    obtain ⟨d, dt, e⟩ := F_begun_eq (q := "law.<locals>.<lambda>") hn
    rw [e]
    walk_at "wg"
    have hmin : ∀ {os : List Ob}, gMin2 os [.d (.int (((ns.map PyData.int).length : Nat) : Int)), .d (.int 3)] = some (.d (.int (if (3 : Int) < (((ns.map PyData.int).length : Nat) : Int) then 3 else (((ns.map PyData.int).length : Nat) : Int)))) := fun {os} => rfl
    rw [hmin]
    have hm : 0 ≤ (if (3 : Int) < (((ns.map PyData.int).length : Nat) : Int) then 3 else (((ns.map PyData.int).length : Nat) : Int)) ∧ (if (3 : Int) < (((ns.map PyData.int).length : Nat) : Int) then 3 else (((ns.map PyData.int).length : Nat) : Int)) ≤ 3 := by
      split <;> omega
    revert hm
    generalize (if (3 : Int) < (((ns.map PyData.int).length : Nat) : Int) then 3 else (((ns.map PyData.int).length : Nat) : Int)) = mn
    rintro ⟨m0, m1⟩
    walk_at "wg"
    rw [rng1_i (by omega) (by omega), wpo_some]
    refine wp_forI (fun ws s => ∃ (h2 h3 h4 h5 h6 h7 h8 h9 h10 h11 h12 h13 h14 h15 h16 h17 h18 : Option W) (e : DS), e.ok (180 * ws.length) ∧ s = ⟨[some (.d (.list (ns.map .int))), some (.obj 2), h2, h3, h4, h5, h6, h7, h8, h9, h10, h11, h12, h13, h14, h15, h16, h17, h18], Dr O3 2 1 e, []⟩) ?_ ?_ ?_
    · refine ⟨none, none, none, none, none, none, none, none, none, none, none, none, none, none, none, none, none, d, ⟨by omega, ?_⟩, rfl⟩
      rw [List.length_map, rng, List.length_map, List.length_range, dt]
      have : (3 + mn).toNat ≤ 6 := by omega
      omega
    · rintro w ws s ⟨h2, h3, h4, h5, h6, h7, h8, h9, h10, h11, h12, h13, h14, h15, h16, h17, h18, e, he, rfl⟩
      walk_at "wg"
      refine turn_ok (b := 180 * ws.length) (he.le (by rw [List.length_cons]; omega)) ?_
      intro h3 h4 h5 h6 h7 h8 h9 h10 h11 h12 h13 h14 h15 h16 h17 e he
      exact ⟨_, _, _, _, _, _, _, _, _, _, _, _, _, _, _, _, _, e, he, rfl⟩
    · rintro s ⟨h2, h3, h4, h5, h6, h7, h8, h9, h10, h11, h12, h13, h14, h15, h16, h17, h18, e, he, rfl⟩
      walk_at "wg"
  obtain ⟨r, e, p⟩ := goal
  cases r with
  | ok w os' es =>
    cases w with
    | d y =>
      obtain ⟨rfl, rfl⟩ := p
      exact ⟨os', [], e⟩
    | _ => exact p.elim
  | _ => exact p.elim
end FL
open PySem PySem.W PySem.Calls PyProof.Rows
theorem PySem.Challenge.cw_formrules_k80_cuts_of_trees_holds : PySem.Challenge.rw_formrules_k80_cuts_of_trees.Holds := by
  w_on; o_law
  refine HandSHeadRun.head_any (r := OpenLaw.row PySem.Challenge.rw_formrules_k80_cuts_of_trees) (q := FrHead.qv) (H := FrHead.hk) (ob := FrHead.ob) (M := 20000) (loose := FrHead.names) (d := HandSHeadRun.topDef FrHead.R.prog 49) (kwd := []) FrHead.ob_eq
    (by kernel_rfl) (fun s => by kernel_rfl) FrHead.run (by kernel_rfl) (by kernel_rfl) (by kernel_rfl) (by rfl) (by first | assumption | decide +kernel) (by decide +kernel) ⟨rfl, rfl, rfl, rfl, rfl, by decide +kernel⟩ ?hw ?hc
  case hw => w_witness2
  case hc =>
    refine LamX.walk_ofTsE (l := PySem.Challenge.rw_formrules_k80_cuts_of_trees) (n := 63) (k := 36) (x := "script") (CX := fun w => L2.CX (PySem.Challenge.rw_formrules_k80_cuts_of_trees).prog w) rfl (by decide) (by kernel_rfl) ⟨rfl, by decide, by decide⟩ (fun w mg fa h Y G hmg0 => ?_) (fun w H s e s' z => FL.cx_none z)
    obtain ⟨K, KX, c⟩ := Y
    have hmg : mg ("law" : PySem.Str) = some (.ref fa) := by
      have e : (HandSHeadRun.topDef FrHead.R.prog 49).name = ("law" : PySem.Str) := by kernel_rfl
      rw [← e]
      exact hmg0
    exact ⟨K, KX, FL.law_at _ FL.law_true KX G c hmg⟩
