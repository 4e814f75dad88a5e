import PyProof.Rows.All
import HandS.ForMost
import HandS.Deep
import HandS.IsInst
import HandS.Flow
import HandS.Star
import HandS.Style
import HandS.Codes
import HandS.TupAny
import HandS.TupMul
import HandS.WrittenGet
import HandS.Wide
import HandS.TupSets
import PyProof.ReprReads
import HandS.Lambda
import KE.KDictKeyed
import PyProof.ReprRoads
import PyProof.StrLawsRepr
import HandS.TupLe
import PyProof.Rows.IntBool
import PyProof.StrBlock2
import HandS.EndBits
import HandS.Zip
import KE.KTupSum
import HandS.NoneIn
import HandS.SortOrd
import HandS.FStr
import HandS.Text
import HandS.Conv
import PyProof.TupleOfStr
import PyProof.EnumMake
import PyProof.Draws
import KE.GoesMore
import HandS.GenList
import HandS.Iter
import HandS.SetFor
import HandS.Property
import HandS.OwnEq
import PyProof.InstNe
import HandS.Exc
import HandS.WordsExc
import HandS.ExcInit
import HandS.ExcIs
import HandS.ExcField
import KE.KExcIs
import HandS.HotCalls
import HandS.EndTab
import HandS.MakeKwOnly
import PySem.Challenge.RW_ownrights_k36_rests_told
set_option Elab.async false
set_option linter.all false
set_option autoImplicit false
section
set_option maxRecDepth 100000
set_option maxHeartbeats 4000000
namespace Dl
open PySem PySem.Spec PyProof.Rows L2

/-! ### data in a heap: a list is one that stands in it, a tuple may be a written one -/
/-- what stands from the beginning, and the world it stands in -/
structure KK where
  K : PySem.W.Frag
  P : Program
  w : World
abbrev kkOf (P : Program) (w : World) (K : PySem.W.Frag) : KK := ⟨K, P, w⟩
instance : Coe KK PySem.W.Frag := ⟨KK.K⟩
abbrev _root_.L2.Cx.KK (X : L2.Cx) : KK := ⟨X.K, X.prog, X.w⟩
/-- the rows of a set of tuples of ints -/
def rowD (ns : List Int) : PyData := .tuple (ns.map PyData.int)
/-- an object as data: its class and its fields -/
def objD (C : Addr) (fs : List (PyData × PyData)) : PyData := .dict ((.int C, .none) :: fs)
/-- a stored set of tuples of ints as data: its rows in the order in which they were laid -/
def setD (L : List (List Int)) : PyData := .dict [(.bool true, .list (L.map rowD))]
/-- a caught exception as data: its class and its fields -/
def excD (C : Addr) (fs : List (PyData × PyData)) : PyData := .dict ((.int C, .bool true) :: fs)
/-- at a stands an exception of the class at C, its fields at dx -/
def exS (a C dx : Addr) : HO := .ext fun h => ∃ (oe : Obj) (vs : Array Value), h.get? a = some oe ∧ oe.cls = .ref C ∧ oe.dict = some dx ∧ oe.data = .fields vs
/-- at a stands a dict: its keys and where they stand, each with True -/
def DctP (P : Program) (w : World) (h : Heap) (a : Addr) (L : List (Addr × NestedKey)) : Prop := (∃ o es ep, h.get? a = some o ∧ o.ExactDict ∧ o.data = .dict es ep ∧ es.toList = (L.map fun p => (p.2, p.1, Value.bool true)).map (entryOfKey (nestedKind P w))) ∧ (L.map (·.2)).Nodup ∧ (a == sysModules) = false
def DctO (P : Program) (w : World) (a : Addr) (L : List (Addr × NestedKey)) : HO := .ext fun h => DctP P w h a L
/-- a dict of keys with True as data -/
def dctD (ks : List PyData) : PyData := .dict [(.bool false, .list ks)]
mutual
inductive De (K : KK) (H : Hp) : V → PyData → Prop
  | non : De K H .non .none
  | bl (b : Bool) : De K H (.bl b) (.bool b)
  | int (i : Int) : De K H (.int i) (.int i)
  | str (x : Str) : De K H (.str x) (.str x)
  | lst {a : Addr} {vs : List V} {ds : List PyData} : H a = some (.lst vs) → DeAll K H vs ds → De K H (.ref a) (.list ds)
  | tup {a : Addr} {vs : List V} {ds : List PyData} : SqT K H a vs → DeAll K H vs ds → De K H (.ref a) (.tuple ds)
  | obj {a C dx : Addr} {fs : List (Str × V)} {ds : List (PyData × PyData)} : H a = some (.ins C dx fs) → DeF K H fs ds → De K H (.ref a) (objD C ds)
  | exc {a C dx : Addr} {fs : List (Str × V)} {ds : List (PyData × PyData)} : H a = some (exS a C dx) → H dx = some (.xd fs) → DeF K H fs ds → De K H (.ref a) (excD C ds)
  | setO {a : Addr} {L : List (Addr × List Int)} : H a = some (SetTO K.P K.w a L) → (∀ p ∈ L, SqT K H p.1 (p.2.map V.int)) → De K H (.ref a) (setD (L.map fun p => p.2))
  | dctO {a : Addr} {L : List (Addr × NestedKey)} : H a = some (DctO K.P K.w a L) → (∀ p ∈ L, De K H (.ref p.1) p.2.data) → De K H (.ref a) (dctD (L.map fun p => p.2.data))
inductive DeAll (K : KK) (H : Hp) : List V → List PyData → Prop
  | nil : DeAll K H [] []
  | cons {v : V} {vs : List V} {d : PyData} {ds : List PyData} : De K H v d → DeAll K H vs ds → DeAll K H (v :: vs) (d :: ds)
inductive DeF (K : KK) (H : Hp) : List (Str × V) → List (PyData × PyData) → Prop
  | nil : DeF K H [] []
  | cons {x : Str} {v : V} {vs : List (Str × V)} {d : PyData} {ds : List (PyData × PyData)} : De K H v d → DeF K H vs ds → DeF K H ((x, v) :: vs) ((.str x, d) :: ds)
end
theorem sqT_up {K : KK} {G G' : Hp} (e : Same G G') {a : Addr} {vs : List V} (hs : SqT K G a vs) : SqT K G' a vs := by
  rcases hs with (q | ⟨o, q⟩) | q
  · exact .inl (.inl (e _ _ q))
  · exact .inl (.inr ⟨o, e _ _ q⟩)
  · exact .inr q
/-- it is neither an object nor a set -/
def noD : PyData → Bool
  | .dict _ => false
  | _ => true
mutual
theorem De.dp {K : KK} {G : Hp} : ∀ (d : PyData) (v : V), d.hasDict = false → De K G v d → Dp K G v d
  | .none, _, _, h => by cases h; exact .non
  | .bool b, _, _, h => by cases h; exact .bl b
  | .int i, _, _, h => by cases h; exact .int i
  | .str x, _, _, h => by cases h; exact .str x
  | .list ds, _, n, h => by
    cases h with
    | lst hs ha => exact .lst (.inl (.inl hs)) (DeAll.dp ds _ (by simpa [PyData.hasDict] using n) ha)
  | .tuple ds, _, n, h => by
    cases h with
    | tup hs ha => exact .tup hs (DeAll.dp ds _ (by simpa [PyData.hasDict] using n) ha)
  | .dict _, _, n, h => by simp [PyData.hasDict] at n
theorem DeAll.dp {K : KK} {G : Hp} : ∀ (ds : List PyData) (vs : List V), PyData.hasDictAll ds = false → DeAll K G vs ds → DpAll K G vs ds
  | [], _, _, h => by cases h; exact .nil
  | d :: ds, _, n, h => by
    rw [PyData.hasDictAll, Bool.or_eq_false_iff] at n
    cases h with
    | cons h1 h2 => exact .cons (De.dp d _ n.1 h1) (DeAll.dp ds _ n.2 h2)
end
theorem De.dpS {K : KK} {G : Hp} {d : PyData} {v : V} (s : SeqAt.shaped d = true) (h : De K G v d) : Dp K G v d :=
  De.dp d v (PyData.hasDict_of_canLay d (SeqAt.canLay_of_shaped s)) h
mutual
theorem De.up0 {K : KK} {G G' : Hp} (e : Same G G') : ∀ {v : V} {d : PyData}, De K G v d → De K G' v d
  | _, _, .non => .non
  | _, _, .bl b => .bl b
  | _, _, .int i => .int i
  | _, _, .str x => .str x
  | _, _, .lst hs ha => .lst (e _ _ hs) (DeAll.up0 e ha)
  | _, _, .tup hs ha => .tup (sqT_up e hs) (DeAll.up0 e ha)
  | _, _, .obj hs ha => .obj (e _ _ hs) (DeF.up0 e ha)
  | _, _, .exc hs hd ha => .exc (e _ _ hs) (e _ _ hd) (DeF.up0 e ha)
  | _, _, .setO hs ha => .setO (e _ _ hs) fun p hp => sqT_up e (ha p hp)
  | _, _, .dctO hs ha => .dctO (e _ _ hs) fun p hp => De.up0 e (ha p hp)
theorem DeAll.up0 {K : KK} {G G' : Hp} (e : Same G G') : ∀ {vs : List V} {ds : List PyData}, DeAll K G vs ds → DeAll K G' vs ds
  | _, _, .nil => .nil
  | _, _, .cons a b => .cons (De.up0 e a) (DeAll.up0 e b)
theorem DeF.up0 {K : KK} {G G' : Hp} (e : Same G G') : ∀ {vs : List (Str × V)} {ds : List (PyData × PyData)}, DeF K G vs ds → DeF K G' vs ds
  | _, _, .nil => .nil
  | _, _, .cons a b => .cons (De.up0 e a) (DeF.up0 e b)
end
theorem De.up {K : KK} {G G' : Hp} (e : Same G G') (d : PyData) (v : V) (h : De K G v d) : De K G' v d := De.up0 e h
theorem DeAll.up {K : KK} {G G' : Hp} (e : Same G G') (ds : List PyData) (vs : List V) (h : DeAll K G vs ds) : DeAll K G' vs ds := DeAll.up0 e h
section
variable {K : KK} {G : Hp}
theorem DeAll.length : ∀ {vs : List V} {ds : List PyData}, DeAll K G vs ds → vs.length = ds.length
  | _, _, .nil => rfl
  | _, _, .cons _ h => by rw [List.length_cons, List.length_cons, DeAll.length h]
theorem DeAll.at_ : ∀ {vs : List V} {ds : List PyData} {i : Nat} {d : PyData}, DeAll K G vs ds → ds[i]? = some d → ∃ v, vs[i]? = some v ∧ De K G v d
  | _, _, _, _, .nil, h => by simp at h
  | _, _, 0, _, .cons h _, e => by
    have e' := Option.some.inj e
    subst e'
    exact ⟨_, rfl, h⟩
  | _, _, i + 1, _, .cons _ h, e => DeAll.at_ (i := i) h e
theorem DeAll.ofV : ∀ {vs : List V} {ds : List PyData} {i : Nat} {v : V}, DeAll K G vs ds → vs[i]? = some v → ∃ d, ds[i]? = some d ∧ De K G v d
  | _, _, _, _, .nil, h => by simp at h
  | _, _, 0, _, .cons h _, e => by
    have e' := Option.some.inj e
    subst e'
    exact ⟨_, rfl, h⟩
  | _, _, i + 1, _, .cons _ h, e => DeAll.ofV (i := i) h e
theorem DeAll.app : ∀ {vs ws : List V} {ds es : List PyData}, DeAll K G vs ds → DeAll K G ws es → DeAll K G (vs ++ ws) (ds ++ es)
  | _, _, _, _, .nil, h => h
  | _, _, _, _, .cons a b, h => .cons a (DeAll.app b h)
theorem DeAll.drop : ∀ (n : Nat) {vs : List V} {ds : List PyData}, DeAll K G vs ds → DeAll K G (vs.drop n) (ds.drop n)
  | 0, _, _, h => h
  | _ + 1, _, _, .nil => .nil
  | n + 1, _, _, .cons _ h => DeAll.drop n h
theorem DeAll.take : ∀ (n : Nat) {vs : List V} {ds : List PyData}, DeAll K G vs ds → DeAll K G (vs.take n) (ds.take n)
  | 0, _, _, _ => .nil
  | _ + 1, _, _, .nil => .nil
  | n + 1, _, _, .cons a h => .cons a (DeAll.take n h)
theorem DeAll.set {d : PyData} {v : V} (hv : De K G v d) : ∀ (n : Nat) {vs : List V} {ds : List PyData}, DeAll K G vs ds → DeAll K G (vs.set n v) (ds.set n d)
  | _, _, _, .nil => .nil
  | 0, _, _, .cons _ h => .cons hv h
  | n + 1, _, _, .cons a h => .cons a (DeAll.set hv n h)
theorem DeAll.rev : ∀ {vs : List V} {ds : List PyData}, DeAll K G vs ds → DeAll K G vs.reverse ds.reverse
  | _, _, .nil => .nil
  | _, _, .cons a h => by
    rw [List.reverse_cons, List.reverse_cons]
    exact DeAll.app (DeAll.rev h) (.cons a .nil)
theorem DeAll.tup : ∀ {vs : List V} {ds : List PyData}, DeAll K G vs ds → ∀ {a : Addr}, SqT K G a vs → De K G (.ref a) (.tuple ds) := fun h _ e => .tup e h
theorem De.tupE {v : V} {ds : List PyData} (h : De K G v (.tuple ds)) : ∃ a vs, v = .ref a ∧ SqT K G a vs ∧ DeAll K G vs ds := by
  cases h with
  | tup a b => exact ⟨_, _, rfl, a, b⟩
theorem De.lstE {v : V} {ds : List PyData} (h : De K G v (.list ds)) : ∃ a vs, v = .ref a ∧ G a = some (.lst vs) ∧ DeAll K G vs ds := by
  cases h with
  | lst a b => exact ⟨_, _, rfl, a, b⟩
theorem De.intE {v : V} {i : Int} (h : De K G v (.int i)) : v = .int i := by cases h; rfl
theorem De.blE {v : V} {i : Bool} (h : De K G v (.bool i)) : v = .bl i := by cases h; rfl
theorem De.strE {v : V} {i : Str} (h : De K G v (.str i)) : v = .str i := by cases h; rfl
theorem De.nonE {v : V} (h : De K G v .none) : v = .non := by cases h; rfl
theorem DeAll.ints : ∀ {vs : List V} {ns : List Int}, DeAll K G vs (ns.map PyData.int) → vs = ns.map V.int
  | _, [], .nil => rfl
  | _, n :: ns, .cons a h => by rw [De.intE a, DeAll.ints h]; rfl
theorem DeAll.ofInts : ∀ (ns : List Int), DeAll K G (ns.map V.int) (ns.map PyData.int)
  | [] => .nil
  | n :: ns => .cons (.int n) (DeAll.ofInts ns)
theorem DeAll.bls : ∀ {vs : List V} {ns : List Bool}, DeAll K G vs (ns.map PyData.bool) → vs = ns.map V.bl
  | _, [], .nil => rfl
  | _, n :: ns, .cons a h => by rw [De.blE a, DeAll.bls h]; rfl
theorem DeAll.strs : ∀ {vs : List V} {ns : List Str}, DeAll K G vs (ns.map PyData.str) → vs = ns.map V.str
  | _, [], .nil => rfl
  | _, n :: ns, .cons a h => by rw [De.strE a, DeAll.strs h]; rfl
end

/-! ### the reader, the base, the slots -/
/-- what a reader of the script holds: its cells, the next one, the rest of a great one, how often it was asked -/
structure Rs where
  ns : List Int
  nxt : Int
  rest : Int
  draws : Int
/-- what is fixed through a whole law: what the reader's object holds, the tables of code objects of the lambdas -/
structure WO where
  R : Rs → Hp → HO → Prop
  T : List (Addr × Str)
  rl : ∀ {t : Rs} {G : Hp} {o : HO}, R t G o → ∃ vs, o = .lst vs
instance : CoeFun WO fun _ => Rs → Hp → HO → Prop := ⟨WO.R⟩
/-- r: an object that defs may turn; Wo tells what it holds -/
structure Md (K : KK) (Wo : WO) where
  r : Addr
  up : ∀ {t : Rs} {G G' : Hp} {o : HO}, Same G G' → Wo t G o → Wo t G' o
  G0 : Hp
  H0 : Hp
abbrev Md.at_ {K : KK} {Wo : WO} (M : Md K Wo) (G H : Hp) : Md K Wo := { M with G0 := G, H0 := H }
/-- what is known of an object that stands as it is: R a G o, the object o at a, over the data heap G -/
structure Im where
  R : Addr → Hp → HO → Prop
  up : ∀ {a : Addr} {G G' : Hp} {o : HO}, Same G G' → R a G o → R a G' o
inductive B where
  | un
  | rd
  | d (x : PyData)
  | own (xs : List PyData)
  | im (i : Im)
  | new (a C : Addr) (fs : List (PyData × PyData))
  | fx (f : Addr)
section
variable {K : KK} {Wo : WO} {M : Md K Wo} {t t1 t' : Rs} {G H G1 H1 G2 H2 G' H' : Hp}
structure Stp {Wo : WO} (M : Md K Wo) (t : Rs) (G H G' H' : Hp) : Prop where
  gg : Same G G'
  hh : ∀ a o, a ≠ M.r → (∀ ps, o ≠ .tbl ps) → H a = some o → H' a = some o
  al : ∀ a, H a ≠ none → H' a ≠ none
  fr : ∀ a, H a ≠ none → G a = none → G' a = none
  sub : Same G' H'
  rd : ∃ o, H' M.r = some o ∧ Wo t G' o
  tb : LamX.Tabs Wo.T H' ∧ ∀ a ps, G' a ≠ some (.tbl ps)
theorem Stp.trans (a : Stp M t G H G1 H1) (b : Stp M t1 G1 H1 G2 H2) : Stp M t1 G H G2 H2 where
  gg := a.gg.trans b.gg
  hh := fun x o n nt e => b.hh x o n nt (a.hh x o n nt e)
  al := fun x e => b.al x (a.al x e)
  fr := fun x e g => b.fr x (a.al x e) (a.fr x e g)
  sub := b.sub
  rd := b.rd
  tb := b.tb
theorem Stp.alive (a : Stp M t G H G1 H1) {x : Addr} (e : H x ≠ none) : H1 x ≠ none := a.al x e
/-- a table and its code objects stand where something else is written -/
theorem tabs_upd {T : List (Addr × Str)} {H : Hp} {l : Addr} {o : HO} (k : LamX.Tabs T H) (h : H l = none ∨ (∃ vs, H l = some (.lst vs)) ∨ (∃ C dx fs, H l = some (.ins C dx fs)) ∨ ∃ kvs, H l = some (.dK kvs)) : LamX.Tabs T (upd H l o) := fun p hp => by
  obtain ⟨ps, h1, h2, h3⟩ := k p hp
  have ne : ∀ b u, H b = some u → (∀ vs, u ≠ .lst vs) → (∀ C dx fs, u ≠ .ins C dx fs) → (∀ kvs, u ≠ .dK kvs) → b ≠ l := fun b u e n1 n2 n3 z => by
    rw [z] at e
    rcases h with h | ⟨vs, h⟩ | ⟨C, dx, fs, h⟩ | ⟨kvs, h⟩
    · rw [h] at e
      cases e
    · rw [h] at e
      exact n1 vs (Option.some.inj e).symm
    · rw [h] at e
      exact n2 C dx fs (Option.some.inj e).symm
    · rw [h] at e
      exact n3 kvs (Option.some.inj e).symm
  refine ⟨ps, by rw [upd_ne (ne _ _ h1 (fun _ z => by cases z) (fun _ _ _ z => by cases z) (fun _ z => by cases z))]; exact h1, h2, fun pos cv hc => ?_⟩
  obtain ⟨c, e1, e2⟩ := h3 pos cv hc
  exact ⟨c, e1, by
    rw [upd_ne (ne _ _ e2 (fun _ z => by unfold LamX.CodeO at z; cases z) (fun _ _ _ z => by unfold LamX.CodeO at z; cases z) (fun _ z => by unfold LamX.CodeO at z; cases z))]
    exact e2⟩
structure Ok {Wo : WO} (M : Md K Wo) (t : Rs) (G H : Hp) : Prop where
  sub : Same G H
  gr : G M.r = none
  rd : ∃ o, H M.r = some o ∧ Wo t G o
  tb : LamX.Tabs Wo.T H ∧ ∀ a ps, G a ≠ some (.tbl ps)
theorem Ok.refl (k : Ok M t G H) : Stp M t G H G H := ⟨Same.refl G, fun _ _ _ _ e => e, fun _ e => e, fun _ _ e => e, k.sub, k.rd, k.tb⟩
theorem Ok.step (k : Ok M t G H) (a : Stp M t1 G H G1 H1) : Ok M t1 G1 H1 := ⟨a.sub, a.fr _ (fun z => by
  obtain ⟨o, q, _⟩ := k.rd
  rw [q] at z
  cases z) k.gr, a.rd, a.tb⟩
/-- a new object of data -/
theorem nt_upd {G : Hp} {p : Addr} {o : HO} (k : ∀ a ps, G a ≠ some (.tbl ps)) (no : ∀ ps, o ≠ .tbl ps) : ∀ a ps, upd G p o a ≠ some (.tbl ps) := fun a ps z => by
  by_cases ha : a = p
  · rw [ha, upd_same] at z
    exact no ps (Option.some.inj z)
  · rw [upd_ne ha] at z
    exact k a ps z
theorem Ok.lay {p : Addr} {o : HO} (k : Ok M t G H) (hp : H p = none) (no : ∀ ps, o ≠ .tbl ps := by intro _ z; cases z) : Stp M t G H (upd G p o) (upd H p o) where
  gg := fun a u e => by
    rw [upd_ne (ne_of_none (k.sub a u e) hp)]
    exact e
  hh := fun a u _ _ e => by
    rw [upd_ne (ne_of_none e hp)]
    exact e
  al := fun a e => by
    by_cases ha : a = p
    · rw [ha, upd_same]
      simp
    · rw [upd_ne ha]
      exact e
  tb := ⟨tabs_upd k.tb.1 (.inl hp), nt_upd k.tb.2 no⟩
  fr := fun a e g => by
    by_cases ha : a = p
    · rw [ha] at e
      exact absurd hp e
    · rw [upd_ne ha]
      exact g
  sub := fun a u e => by
    by_cases ha : a = p
    · subst ha
      rw [upd_same] at e ⊢
      exact e
    · rw [upd_ne ha] at e ⊢
      exact k.sub a u e
  rd := by
    obtain ⟨o', q, w⟩ := k.rd
    refine ⟨o', ?_, M.up (fun a u e => ?_) w⟩
    · rw [upd_ne (ne_of_none q hp)]
      exact q
    · rw [upd_ne (ne_of_none (k.sub a u e) hp)]
      exact e
/-- a new object that is nobody's yet -/
theorem Ok.layO {p : Addr} {o : HO} (k : Ok M t G H) (hp : H p = none) : Stp M t G H G (upd H p o) where
  gg := Same.refl G
  hh := fun a u _ _ e => by
    rw [upd_ne (ne_of_none e hp)]
    exact e
  al := fun a e => by
    by_cases ha : a = p
    · rw [ha, upd_same]
      simp
    · rw [upd_ne ha]
      exact e
  tb := ⟨tabs_upd k.tb.1 (.inl hp), k.tb.2⟩
  fr := fun a e g => g
  sub := fun a u e => by
    rw [upd_ne (ne_of_none (k.sub a u e) hp)]
    exact k.sub a u e
  rd := by
    obtain ⟨o', q, w⟩ := k.rd
    refine ⟨o', ?_, w⟩
    rw [upd_ne (ne_of_none q hp)]
    exact q
/-- an own new list becomes data -/
theorem Stp.freeze {l : Addr} {o : HO} (a : Stp M t G H G1 H1) (n : H l = none) (g : G1 l = none) (e : H1 l = some o) (no : ∀ ps, o ≠ .tbl ps := by intro _ z; cases z) : Stp M t G H (upd G1 l o) H1 where
  gg := fun b u q => by
    have q1 := a.gg b u q
    rw [upd_ne (ne_of_none q1 g)]
    exact q1
  hh := a.hh
  al := a.al
  tb := ⟨a.tb.1, nt_upd a.tb.2 no⟩
  fr := fun b q z => by
    by_cases hb : b = l
    · rw [hb] at q
      exact absurd n q
    · rw [upd_ne hb]
      exact a.fr b q z
  sub := fun b u q => by
    by_cases hb : b = l
    · subst hb
      rw [upd_same] at q
      rw [e]
      exact q
    · rw [upd_ne hb] at q
      exact a.sub b u q
  rd := by
    obtain ⟨o', q, w⟩ := a.rd
    refine ⟨o', q, M.up (fun b u z => ?_) w⟩
    rw [upd_ne (ne_of_none z g)]
    exact z

def Slot {Wo : WO} (M : Md K Wo) (G H : Hp) (u : Option (Option V)) : B → Prop
  | .un => True
  | .rd => u = some (some (.ref M.r))
  | .d x => ∃ v, u = some (some v) ∧ De K G v x
  | .own xs => ∃ l vs, u = some (some (.ref l)) ∧ l ≠ M.r ∧ G l = none ∧ H l = some (.lst vs) ∧ M.H0 l = none ∧ DeAll K G vs xs
  | .fx f => u = some (some (.ref f))
  | .im i => ∃ l o, u = some (some (.ref l)) ∧ G l = some o ∧ i.R l G o
  | .new a C fs => ∃ dx vs, u = some (some (.ref a)) ∧ a ≠ M.r ∧ G a = none ∧ H a = some (.ins C dx vs) ∧ M.H0 a = none ∧ DeF K G vs fs
structure Sat {Wo : WO} (M : Md K Wo) (t : Rs) (G H : Hp) (σ : L2.St) (ρ : List B) : Prop where
  st : Stp M t M.G0 M.H0 G H
  ok : Ok M t G H
  len : σ.length = ρ.length
  at_ : ∀ (i : Nat) (b : B), ρ[i]? = some b → Slot M G H σ[i]? b
  dis : ∀ (i j : Nat) (xs ys : List PyData) (l : Addr), i ≠ j → ρ[i]? = some (.own xs) → ρ[j]? = some (.own ys) → σ[i]? = some (some (.ref l)) → σ[j]? = some (some (.ref l)) → False
theorem Slot.step {u : Option (Option V)} {b : B} (s : Slot M G H u b) (a : Stp M t G H G1 H1) : Slot M G1 H1 u b := by
  cases b with
  | un => trivial
  | rd => exact s
  | fx f => exact s
  | d x =>
    obtain ⟨v, e, h⟩ := s
    exact ⟨v, e, De.up a.gg x v h⟩
  | own xs =>
    obtain ⟨l, vs, e, n, g, h, z, q⟩ := s
    exact ⟨l, vs, e, n, a.fr l (by rw [h]; simp) g, a.hh l _ n (fun _ z => by cases z) h, z, DeAll.up a.gg xs vs q⟩
  | im i =>
    obtain ⟨l, o, e, h, r⟩ := s
    exact ⟨l, o, e, a.gg l _ h, i.up a.gg r⟩
  | new b C fs =>
    obtain ⟨dx, vs, e, n, g, h, z, q⟩ := s
    exact ⟨dx, vs, e, n, a.fr b (by rw [h]; simp) g, a.hh b _ n (fun _ z => by cases z) h, z, DeF.up0 a.gg q⟩
theorem Sat.step {σ : L2.St} {ρ : List B} (s : Sat M t G H σ ρ) (a : Stp M t1 G H G1 H1) : Sat M t1 G1 H1 σ ρ :=
  ⟨s.st.trans a, s.ok.step a, s.len, fun i b e => (s.at_ i b e).step a, s.dis⟩
end
end Dl
end
section
set_option maxRecDepth 100000
set_option maxHeartbeats 4000000
namespace Dl
open PySem PySem.Spec PyProof.Rows L2

/-! ### the readings that a piece of text has by itself -/
@[irreducible] def TeOf (X : Cx) (e : Expr) : TE := fun σ H Q => ∀ (pins : List (Addr × Obj)) (s : Shared), Inv X pins σ H s → wpAny (model X.prog X.w) X.A (eval e X.env) (EP X pins σ Q) X.xe s
@[irreducible] def TtOf (X : Cx) (e : Expr) : TT := fun σ H Q => ∀ (pins : List (Addr × Obj)) (s : Shared), Inv X pins σ H s → wpAny (model X.prog X.w) X.A (isTrue e X.env (eval e X.env)) (TP X pins σ Q) X.xe s
@[irreducible] def TwOf (X : Cx) (e : Expr) : TT := fun σ H Q => ∀ (whole : Sem Value) (pins : List (Addr × Obj)) (s : Shared), Inv X pins σ H s → wpAny (model X.prog X.w) X.A (isTrue e X.env whole) (TP X pins σ Q) X.xe s
@[irreducible] def TaOf (X : Cx) (es : List Expr) : TA := fun σ H Q => ∀ (pos : Pos) (pins : List (Addr × Obj)) (s : Shared), Inv X pins σ H s → wpAny (model X.prog X.w) X.A (spliced (backTo pos (starEach es X.env))) (AP X pins σ Q) X.xe s
@[irreducible] def TsOf (X : Cx) (st : Stmt) : TS := fun D σ H => ∀ (pins : List (Addr × Obj)) (s : Shared), Inv X pins σ H s → wpAny (model X.prog X.w) X.A (exec st X.env) (SP X pins D) X.xe s
@[irreducible] def TssOf (X : Cx) (st : List Stmt) : TS := fun D σ H => ∀ (pins : List (Addr × Obj)) (s : Shared), Inv X pins σ H s → wpAny (model X.prog X.w) X.A (execs st X.env) (SP X pins D) X.xe s
section
variable {X : Cx} {σ : L2.St} {H : Hp}
theorem peT {e : Expr} : PE X e (TeOf X e) := by unfold TeOf; exact ⟨fun pins s σ H Q I h => h pins s I⟩
theorem ptT {e : Expr} : PT X e (TtOf X e) := by unfold TtOf; exact ⟨fun pins s σ H Q I h => h pins s I⟩
theorem pwT {e : Expr} : PW X e (TwOf X e) := by unfold TwOf; exact ⟨fun w pins s σ H Q I h => h w pins s I⟩
theorem paT {e : List Expr} : PA X e (TaOf X e) := by unfold TaOf; exact ⟨fun pos pins s σ H Q I h => h pos pins s I⟩
theorem psT {e : Stmt} : PS X e (TsOf X e) := by unfold TsOf; exact ⟨fun pins s σ H D I h => h pins s I⟩
theorem pssT {e : List Stmt} : PSs X e (TssOf X e) := by unfold TssOf; exact ⟨fun pins s σ H D I h => h pins s I⟩
theorem TeOf.of {e : Expr} {te : TE} (h : PE X e te) {Q : VK} (q : te σ H Q) : TeOf X e σ H Q := by unfold TeOf; exact fun pins s I => h.run pins s σ H Q I q
theorem TtOf.of {e : Expr} {te : TT} (h : PT X e te) {Q : Bool → Hp → Prop} (q : te σ H Q) : TtOf X e σ H Q := by unfold TtOf; exact fun pins s I => h.run pins s σ H Q I q
theorem TwOf.of {e : Expr} {te : TT} (h : PW X e te) {Q : Bool → Hp → Prop} (q : te σ H Q) : TwOf X e σ H Q := by unfold TwOf; exact fun w pins s I => h.run w pins s σ H Q I q
theorem TaOf.of {e : List Expr} {te : TA} (h : PA X e te) {Q : List V → Hp → Prop} (q : te σ H Q) : TaOf X e σ H Q := by unfold TaOf; exact fun pos pins s I => h.run pos pins s σ H Q I q
theorem TsOf.of {e : Stmt} {te : TS} (h : PS X e te) {D : Ends} (q : te D σ H) : TsOf X e D σ H := by unfold TsOf; exact fun pins s I => h.run pins s σ H D I q
theorem TssOf.of {e : List Stmt} {te : TS} (h : PSs X e te) {D : Ends} (q : te D σ H) : TssOf X e D σ H := by unfold TssOf; exact fun pins s I => h.run pins s σ H D I q
end

/-! ### the judgements: data, a new list, a test, arguments -/
section
variable {K : KK} {Wo : WO} (M : Md K Wo)
def DD (te : TE) (ρ : List B) (t : Rs) (P : PyData → Rs → Prop) : Prop := ∀ (σ : L2.St) (G H : Hp), Sat M t G H σ ρ → ∀ Q : VK,
  (∀ (G' H' : Hp) (v : V) (x : PyData) (t' : Rs), Stp M t' G H G' H' → De K G' v x → P x t' → Q v H') → te σ H Q
def DL (te : TE) (ρ : List B) (t : Rs) (P : List PyData → Rs → Prop) : Prop := ∀ (σ : L2.St) (G H : Hp), Sat M t G H σ ρ → ∀ Q : VK,
  (∀ (G' H' : Hp) (l : Addr) (vs : List V) (xs : List PyData) (t' : Rs), Stp M t' G H G' H' → H l = none → G' l = none → H' l = some (.lst vs) → DeAll K G' vs xs → P xs t' → Q (.ref l) H') → te σ H Q
def DT (tt : TT) (ρ : List B) (t : Rs) (P : Bool → Rs → Prop) : Prop := ∀ (σ : L2.St) (G H : Hp), Sat M t G H σ ρ → ∀ Q : Bool → Hp → Prop,
  (∀ (G' H' : Hp) (b : Bool) (t' : Rs), Stp M t' G H G' H' → P b t' → Q b H') → tt σ H Q
/-- what an argument is -/
inductive Arg (G : Hp) : V → B → Prop
  | d {v : V} {x : PyData} : De K G v x → Arg G v (.d x)
  | rd : Arg G (.ref M.r) .rd
inductive ArgAll (G : Hp) : List V → List B → Prop
  | nil : ArgAll G [] []
  | cons {v : V} {vs : List V} {b : B} {bs : List B} : Arg M G v b → ArgAll G vs bs → ArgAll G (v :: vs) (b :: bs)
def DA (ta : TA) (ρ : List B) (t : Rs) (P : List B → Rs → Prop) : Prop := ∀ (σ : L2.St) (G H : Hp), Sat M t G H σ ρ → ∀ Q : List V → Hp → Prop,
  (∀ (G' H' : Hp) (vs : List V) (bs : List B) (t' : Rs), Stp M t' G H G' H' → ArgAll M G' vs bs → P bs t' → Q vs H') → ta σ H Q
end
section
variable {K : KK} {Wo : WO} {M : Md K Wo} {G G' : Hp}
theorem Arg.up (e : Same G G') {v : V} {b : B} (h : Arg M G v b) : Arg M G' v b := by
  cases h with
  | d h => exact .d (De.up e _ _ h)
  | rd => exact .rd
theorem ArgAll.up (e : Same G G') : ∀ {vs : List V} {bs : List B}, ArgAll M G vs bs → ArgAll M G' vs bs
  | _, _, .nil => .nil
  | _, _, .cons a h => .cons (a.up e) (ArgAll.up e h)
/-- arguments that are data -/
theorem ArgAll.data : ∀ {vs : List V} {ds : List PyData}, ArgAll M G vs (ds.map B.d) → DeAll K G vs ds
  | _, [], .nil => .nil
  | _, _ :: _, .cons (.d a) h => .cons a (ArgAll.data h)
end
section
variable {X : Cx} {Wo : WO} (M : Md X.KK Wo)
abbrev JD (e : Expr) (ρ : List B) (t : Rs) (P : PyData → Rs → Prop) : Prop := DD M (TeOf X e) ρ t P
abbrev JL (e : Expr) (ρ : List B) (t : Rs) (P : List PyData → Rs → Prop) : Prop := DL M (TeOf X e) ρ t P
abbrev JT (e : Expr) (ρ : List B) (t : Rs) (P : Bool → Rs → Prop) : Prop := DT M (TtOf X e) ρ t P
abbrev JW (e : Expr) (ρ : List B) (t : Rs) (P : Bool → Rs → Prop) : Prop := DT M (TwOf X e) ρ t P
abbrev JA (es : List Expr) (ρ : List B) (t : Rs) (P : List B → Rs → Prop) : Prop := DA M (TaOf X es) ρ t P
end
section
variable {K : KK} {Wo : WO} {M : Md K Wo} {te ta tb : TE} {ρ : List B} {t : Rs} {P : PyData → Rs → Prop}
theorem DL.toD (h : DL M te ρ t fun xs t' => P (.list xs) t') : DD M te ρ t P := fun σ G H S Q q =>
  h σ G H S Q fun G' H' l vs xs t' s n g e a p => q (upd G' l (.lst vs)) H' (.ref l) (.list xs) t' (s.freeze n g e) (.lst upd_same (DeAll.up (fun b u z => by
    rw [upd_ne (ne_of_none z g)]
    exact z) xs vs a)) p
theorem DD.imp {P' : PyData → Rs → Prop} (h : DD M te ρ t P) (i : ∀ x t', P x t' → P' x t') : DD M te ρ t P' := fun σ G H S Q q => h σ G H S Q fun G' H' v x t' s d p => q G' H' v x t' s d (i x t' p)
theorem DL.imp {P P' : List PyData → Rs → Prop} (h : DL M te ρ t P) (i : ∀ x t', P x t' → P' x t') : DL M te ρ t P' := fun σ G H S Q q => h σ G H S Q fun G' H' l vs xs t' s n g e a p => q G' H' l vs xs t' s n g e a (i _ _ p)
theorem DT.imp {tt : TT} {P P' : Bool → Rs → Prop} (h : DT M tt ρ t P) (i : ∀ x t', P x t' → P' x t') : DT M tt ρ t P' := fun σ G H S Q q => h σ G H S Q fun G' H' b t' s p => q G' H' b t' s (i _ _ p)
/-- what an operation on values makes of two data, of one -/
def Bn {Wo : WO} (M : Md K Wo) (r : V → V → Hp → VK → Prop) (x y : PyData) (t : Rs) (P : PyData → Rs → Prop) : Prop := ∀ (G H : Hp) (v w : V), Ok M t G H → De K G v x → De K G w y → ∀ Q : VK,
  (∀ (G' H' : Hp) (u : V) (z : PyData) (t' : Rs), Stp M t' G H G' H' → De K G' u z → P z t' → Q u H') → r v w H Q
def BnL {Wo : WO} (M : Md K Wo) (r : V → V → Hp → VK → Prop) (x y : PyData) (t : Rs) (P : List PyData → Rs → Prop) : Prop := ∀ (G H : Hp) (v w : V), Ok M t G H → De K G v x → De K G w y → ∀ Q : VK,
  (∀ (G' H' : Hp) (l : Addr) (vs : List V) (xs : List PyData) (t' : Rs), Stp M t' G H G' H' → H l = none → G' l = none → H' l = some (.lst vs) → DeAll K G' vs xs → P xs t' → Q (.ref l) H') → r v w H Q
def Un1 {Wo : WO} (M : Md K Wo) (r : V → Hp → VK → Prop) (x : PyData) (t : Rs) (P : PyData → Rs → Prop) : Prop := ∀ (G H : Hp) (v : V), Ok M t G H → De K G v x → ∀ Q : VK,
  (∀ (G' H' : Hp) (u : V) (z : PyData) (t' : Rs), Stp M t' G H G' H' → De K G' u z → P z t' → Q u H') → r v H Q
/-- a call on values -/
def Cn {Wo : WO} (M : Md K Wo) (r : List V → Hp → VK → Prop) (bs : List B) (t : Rs) (P : PyData → Rs → Prop) : Prop := ∀ (G H : Hp) (vs : List V), Ok M t G H → ArgAll M G vs bs → ∀ Q : VK,
  (∀ (G' H' : Hp) (u : V) (z : PyData) (t' : Rs), Stp M t' G H G' H' → De K G' u z → P z t' → Q u H') → r vs H Q
def CnL {Wo : WO} (M : Md K Wo) (r : List V → Hp → VK → Prop) (bs : List B) (t : Rs) (P : List PyData → Rs → Prop) : Prop := ∀ (G H : Hp) (vs : List V), Ok M t G H → ArgAll M G vs bs → ∀ Q : VK,
  (∀ (G' H' : Hp) (l : Addr) (ws : List V) (xs : List PyData) (t' : Rs), Stp M t' G H G' H' → H l = none → G' l = none → H' l = some (.lst ws) → DeAll K G' ws xs → P xs t' → Q (.ref l) H') → r vs H Q
/-- a value comes, nothing changes -/
theorem keep {G H : Hp} (k : Ok M t G H) {Q : VK} (q : ∀ (G' H' : Hp) (u : V) (z : PyData) (t' : Rs), Stp M t' G H G' H' → De K G' u z → P z t' → Q u H') {u : V} {z : PyData} (d : De K G u z) (p : P z t) : Q u H := q G H u z t k.refl d p
theorem dd_op {r : R2} (h : DD M ta ρ t fun x t1 => DD M tb ρ t1 fun y t2 => Bn M r x y t2 P) : DD M (tOp r ta tb) ρ t P := fun σ G H S Q q =>
  h σ G H S _ fun G1 H1 v x t1 s1 d1 h1 => h1 σ G1 H1 (S.step s1) _ fun G2 H2 w y t2 s2 d2 b =>
    b G2 H2 v w ((S.step s1).step s2).ok (De.up s2.gg _ _ d1) d2 Q fun G3 H3 u z t3 s3 d3 p => q G3 H3 u z t3 ((s1.trans s2).trans s3) d3 p
theorem fresh_of {G H G1 H1 : Hp} {t1 : Rs} (s : Stp M t1 G H G1 H1) {l : Addr} (n : H1 l = none) : H l = none := by
  cases q : H l with
  | none => rfl
  | some o => exact absurd n (s.alive (by rw [q]; simp))
theorem dl_op {r : R2} {P : List PyData → Rs → Prop} (h : DD M ta ρ t fun x t1 => DD M tb ρ t1 fun y t2 => BnL M r x y t2 P) : DL M (tOp r ta tb) ρ t P := fun σ G H S Q q =>
  h σ G H S _ fun G1 H1 v x t1 s1 d1 h1 => h1 σ G1 H1 (S.step s1) _ fun G2 H2 w y t2 s2 d2 b =>
    b G2 H2 v w ((S.step s1).step s2).ok (De.up s2.gg _ _ d1) d2 Q fun G3 H3 l vs xs t3 s3 n g e a p => q G3 H3 l vs xs t3 ((s1.trans s2).trans s3) (fresh_of (s1.trans s2) n) g e a p
end

/-! ### expressions -/
section
variable {X : Cx} {Wo : WO} {M : Md X.KK Wo} {ρ : List B} {t : Rs} {P : PyData → Rs → Prop} {a b c e : Expr} {pos : Pos}
theorem jd_of {te : TE} (h : PE X e te) (d : DD M te ρ t P) : JD M e ρ t P := fun σ G H S Q q => TeOf.of h (d σ G H S Q q)
theorem jl_of {te : TE} {P : List PyData → Rs → Prop} (h : PE X e te) (d : DL M te ρ t P) : JL M e ρ t P := fun σ G H S Q q => TeOf.of h (d σ G H S Q q)
theorem jt_of {te : TT} {P : Bool → Rs → Prop} (h : PT X e te) (d : DT M te ρ t P) : JT M e ρ t P := fun σ G H S Q q => TtOf.of h (d σ G H S Q q)
theorem jw_of {te : TT} {P : Bool → Rs → Prop} (h : PW X e te) (d : DT M te ρ t P) : JW M e ρ t P := fun σ G H S Q q => TwOf.of h (d σ G H S Q q)
theorem ja_of {te : TA} {es : List Expr} {P : List B → Rs → Prop} (h : PA X es te) (d : DA M te ρ t P) : JA M es ρ t P := fun σ G H S Q q => TaOf.of h (d σ G H S Q q)
theorem jd_name (i : Nat) {x : Str} {y : PyData} (hr : ρ[i]? = some (.d y)) (p : P y t) (hN : X.N[i]? = some x := by rfl) (hv : Vis X.env.scope x := by first | exact Or.inl rfl | exact Or.inr (Or.inl rfl) | exact Or.inr (Or.inr rfl))
    (hd : (x == ("__debug__" : Str)) = false := by decide) (hcd : (x == ("__classdict__" : Str)) = false := by decide) : JD M (.Name x pos) ρ t P := jd_of (pv i hN hv hd hcd) fun σ G H S Q q => by
  obtain ⟨v, hs, d⟩ := S.at_ i _ hr
  exact ⟨v, hs, q G H v y t S.ok.refl d p⟩
theorem jd_int {i : Int} {j : Nat} (p : P (.int i) t) : JD M (.Constant (.int i) j pos) ρ t P := jd_of pe_int fun σ G H S Q q => q G H _ _ t S.ok.refl (.int i) p
theorem jd_str {i : Str} {j : Nat} (p : P (.str i) t) : JD M (.Constant (.str i) j pos) ρ t P := jd_of pe_str fun σ G H S Q q => q G H _ _ t S.ok.refl (.str i) p
theorem jd_bl {i : Bool} {j : Nat} (p : P (.bool i) t) : JD M (.Constant (.bool i) j pos) ρ t P := jd_of pe_bl fun σ G H S Q q => q G H _ _ t S.ok.refl (.bl i) p
theorem jd_non {j : Nat} (p : P .none t) : JD M (.Constant .none j pos) ρ t P := jd_of pe_non fun σ G H S Q q => q G H _ _ t S.ok.refl .non p
theorem jd_bin {op : Operator} {r : R2} (ho : OpR X (binaryOp op) r) (h : JD M a ρ t fun x t1 => JD M b ρ t1 fun y t2 => Bn M r x y t2 P) : JD M (.BinOp a op b pos) ρ t P := jd_of (pe_op ho peT peT) (dd_op h)
theorem jl_bin {op : Operator} {r : R2} {P : List PyData → Rs → Prop} (ho : OpR X (binaryOp op) r) (h : JD M a ρ t fun x t1 => JD M b ρ t1 fun y t2 => BnL M r x y t2 P) : JL M (.BinOp a op b pos) ρ t P := jl_of (pe_op ho peT peT) (dl_op h)
theorem jd_cmp {op : CmpOp} {r : R2} (ho : OpR X (compareOp op) r) (hm : behindInMarks op b = false) (h : JD M a ρ t fun x t1 => JD M b ρ t1 fun y t2 => Bn M r x y t2 P) : JD M (.Compare a [op] [b] pos) ρ t P :=
  jd_of (pe_cmpR ho peT peT hm) (dd_op h)
theorem bn_I0 {K : KK} {Wo : WO} {M : Md K Wo} {P : PyData → Rs → Prop} {g : Int → Int → Int} {i j : Int} (p : P (.int (g i j)) t) : Bn M (rI0 fun i j => .int (g i j)) (.int i) (.int j) t P := fun G H v w k hv hw Q q =>
  ⟨i, j, hv.intE, hw.intE, keep k q (.int _) p⟩
theorem bn_I {K : KK} {Wo : WO} {M : Md K Wo} {P : PyData → Rs → Prop} {C : Int → Int → Prop} {g : Int → Int → Int} {i j : Int} (c : C i j) (p : P (.int (g i j)) t) : Bn M (rI C fun i j => .int (g i j)) (.int i) (.int j) t P := fun G H v w k hv hw Q q =>
  ⟨i, j, hv.intE, hw.intE, c, keep k q (.int _) p⟩
theorem bn_B0 {K : KK} {Wo : WO} {M : Md K Wo} {P : PyData → Rs → Prop} {g : Int → Int → Bool} {i j : Int} (p : P (.bool (g i j)) t) : Bn M (rI0 fun i j => .bl (g i j)) (.int i) (.int j) t P := fun G H v w k hv hw Q q =>
  ⟨i, j, hv.intE, hw.intE, keep k q (.bl _) p⟩
end
end Dl
end
section
set_option maxRecDepth 100000
set_option maxHeartbeats 4000000
namespace Dl
open PySem PySem.Spec PyProof.Rows L2

theorem line_of {n : Nat} (h : n ≤ 16777216) : n ≤ sizeLine := by
  rw [sizeLine_eq]
  exact h
theorem line_lt {n : Nat} (h : n < 16777216) : n < sizeLine := by
  rw [sizeLine_eq]
  exact h
/-! ### arguments, displays -/
section
variable {K : KK} {Wo : WO} {M : Md K Wo} {ρ : List B} {t : Rs} {te ta tb : TE} {tr : TA}
theorem ArgAll.length {G : Hp} : ∀ {vs : List V} {bs : List B}, ArgAll M G vs bs → vs.length = bs.length
  | _, _, .nil => rfl
  | _, _, .cons _ h => by rw [List.length_cons, List.length_cons, ArgAll.length h]
theorem da_nil {P : List B → Rs → Prop} (p : P [] t) : DA M tNil ρ t P := fun σ G H S Q q => q G H [] [] t S.ok.refl .nil p
theorem da_cons {P : List B → Rs → Prop} (h : DD M te ρ t fun x t1 => DA M tr ρ t1 fun bs t2 => P (.d x :: bs) t2) : DA M (tCons te tr) ρ t P := fun σ G H S Q q =>
  h σ G H S _ fun G1 H1 v x t1 s1 d1 h1 => h1 σ G1 H1 (S.step s1) _ fun G2 H2 vs bs t2 s2 a p => q G2 H2 (v :: vs) (.d x :: bs) t2 (s1.trans s2) (.cons (.d (De.up s2.gg _ _ d1)) a) p
end
section
variable {X : Cx} {Wo : WO} {M : Md X.KK Wo} {ρ : List B} {t : Rs} {e : Expr} {es : List Expr} {pos : Pos}
theorem ja_nil {P : List B → Rs → Prop} (p : P [] t) : JA M [] ρ t P := ja_of pa_nil (da_nil p)
theorem ja_cons {P : List B → Rs → Prop} (h : JD M e ρ t fun x t1 => JA M es ρ t1 fun bs t2 => P (.d x :: bs) t2) (hs : starEach (e :: es) X.env = (false, eval e X.env) :: starEach es X.env := by rfl) : JA M (e :: es) ρ t P :=
  ja_of (pa_cons peT paT hs) (da_cons h)
/-- the reader handed on -/
theorem ja_rd (i : Nat) {x : Str} {p : Pos} {P : List B → Rs → Prop} (hr : ρ[i]? = some .rd) (h : JA M es ρ t fun bs t2 => P (.rd :: bs) t2) (hN : X.N[i]? = some x := by rfl)
    (hv : Vis X.env.scope x := by first | exact Or.inl rfl | exact Or.inr (Or.inl rfl) | exact Or.inr (Or.inr rfl)) (hd : (x == ("__debug__" : Str)) = false := by decide) (hcd : (x == ("__classdict__" : Str)) = false := by decide)
    (hs : starEach (.Name x p :: es) X.env = (false, eval (.Name x p) X.env) :: starEach es X.env := by rfl) : JA M (.Name x p :: es) ρ t P :=
  ja_of (pa_cons (pv i hN hv hd hcd) paT hs) fun σ G H S Q q => ⟨.ref M.r, S.at_ i _ hr, h σ G H S _ fun G2 H2 vs bs t2 s2 a p => q G2 H2 _ _ t2 s2 (.cons .rd a) p⟩
theorem jd_tup {j : Nat} {P : PyData → Rs → Prop} (h : JA M es ρ t fun bs t1 => ∃ ds, bs = ds.map B.d ∧ ds.length ≤ 16777216 ∧ P (.tuple ds) t1) : JD M (.Tuple es j pos) ρ t P := jd_of (pe_tup paT) fun σ G H S Q q =>
  h σ G H S _ fun G1 H1 vs bs t1 s1 a ⟨ds, e, l, p⟩ => by
    subst e
    have dl := (ArgAll.data a).length
    refine ⟨line_of (by omega), fun a1 n1 => ?_⟩
    have s2 := (S.step s1).ok.lay (o := .tup vs) n1
    exact q _ _ (.ref a1) _ t1 (s1.trans s2) (.tup (.inl (.inl upd_same)) (DeAll.up s2.gg _ _ (ArgAll.data a))) p
theorem jl_lst {P : List PyData → Rs → Prop} (h : JA M es ρ t fun bs t1 => ∃ ds, bs = ds.map B.d ∧ ds.length ≤ 16777216 ∧ P ds t1) : JL M (.List es pos) ρ t P := jl_of (pe_lst paT) fun σ G H S Q q =>
  h σ G H S _ fun G1 H1 vs bs t1 s1 a ⟨ds, e, l, p⟩ => by
    subst e
    have dl := (ArgAll.data a).length
    refine ⟨line_of (by omega), fun a1 n1 => ?_⟩
    have s2 := (S.step s1).ok.layO (o := .lst vs) n1
    refine q _ _ a1 vs ds t1 (s1.trans s2) (fresh_of s1 n1) ?_ upd_same (ArgAll.data a) p
    cases z : G1 a1 with
    | none => rfl
    | some o =>
      rw [s1.sub _ _ z] at n1
      cases n1
end

/-! ### operators by name -/
section
variable {X : Cx} {Wo : WO} {M : Md X.KK Wo} {ρ : List B} {t : Rs} {P : PyData → Rs → Prop} {a b c e : Expr} {pos : Pos}
theorem jd_add (h : JD M a ρ t fun x t1 => ∃ i, x = .int i ∧ JD M b ρ t1 fun y t2 => ∃ j, y = .int j ∧ P (.int (i + j)) t2) : JD M (.BinOp a .Add b pos) ρ t P := jd_bin op_add (h.imp fun _ _ ⟨i, e, h1⟩ => h1.imp fun _ _ ⟨j, f, p⟩ => by
  subst e f
  exact bn_I0 (g := fun i j => i + j) p)
theorem jd_sub (h : JD M a ρ t fun x t1 => ∃ i, x = .int i ∧ JD M b ρ t1 fun y t2 => ∃ j, y = .int j ∧ P (.int (i - j)) t2) : JD M (.BinOp a .Sub b pos) ρ t P := jd_bin op_sub (h.imp fun _ _ ⟨i, e, h1⟩ => h1.imp fun _ _ ⟨j, f, p⟩ => by
  subst e f
  exact bn_I0 (g := fun i j => i - j) p)
theorem jd_mul (h : JD M a ρ t fun x t1 => ∃ i, x = .int i ∧ JD M b ρ t1 fun y t2 => ∃ j, y = .int j ∧ CMul i j ∧ P (.int (i * j)) t2) : JD M (.BinOp a .Mult b pos) ρ t P := jd_bin op_mul (h.imp fun _ _ ⟨i, e, h1⟩ => h1.imp fun _ _ ⟨j, f, c, p⟩ => by
  subst e f
  exact bn_I (g := fun i j => i * j) c p)
theorem jd_fdiv (h : JD M a ρ t fun x t1 => ∃ i, x = .int i ∧ JD M b ρ t1 fun y t2 => ∃ j, y = .int j ∧ CDivN i j ∧ P (.int (i.fdiv j)) t2) : JD M (.BinOp a .FloorDiv b pos) ρ t P := jd_bin op_fdivN (h.imp fun _ _ ⟨i, e, h1⟩ => h1.imp fun _ _ ⟨j, f, c, p⟩ => by
  subst e f
  exact bn_I (g := fun i j => i.fdiv j) c p)
theorem jd_mod (h : JD M a ρ t fun x t1 => ∃ i, x = .int i ∧ JD M b ρ t1 fun y t2 => ∃ j, y = .int j ∧ j ≠ 0 ∧ P (.int (i.fmod j)) t2) : JD M (.BinOp a .Mod b pos) ρ t P := jd_bin op_modN (h.imp fun _ _ ⟨i, e, h1⟩ => h1.imp fun _ _ ⟨j, f, c, p⟩ => by
  subst e f
  exact bn_I (C := fun x j => j ≠ 0) (g := fun i j => i.fmod j) c p)
theorem jd_pow (h : JD M a ρ t fun x t1 => ∃ i, x = .int i ∧ JD M b ρ t1 fun y t2 => ∃ j, y = .int j ∧ CPow i j ∧ P (.int (i ^ j.toNat)) t2) : JD M (.BinOp a .Pow b pos) ρ t P := jd_bin op_pow (h.imp fun _ _ ⟨i, e, h1⟩ => h1.imp fun _ _ ⟨j, f, c, p⟩ => by
  subst e f
  exact bn_I (g := fun i j => i ^ j.toNat) c p)
theorem jd_lt (h : JD M a ρ t fun x t1 => ∃ i, x = .int i ∧ JD M b ρ t1 fun y t2 => ∃ j, y = .int j ∧ P (.bool (decide (i < j))) t2) : JD M (.Compare a [.Lt] [b] pos) ρ t P := jd_cmp op_lt (nomark _) (h.imp fun _ _ ⟨i, e, h1⟩ => h1.imp fun _ _ ⟨j, f, p⟩ => by
  subst e f
  exact bn_B0 (g := fun i j => decide (i < j)) p)
theorem jd_le (h : JD M a ρ t fun x t1 => ∃ i, x = .int i ∧ JD M b ρ t1 fun y t2 => ∃ j, y = .int j ∧ P (.bool (decide (i ≤ j))) t2) : JD M (.Compare a [.LtE] [b] pos) ρ t P := jd_cmp op_le (nomark _) (h.imp fun _ _ ⟨i, e, h1⟩ => h1.imp fun _ _ ⟨j, f, p⟩ => by
  subst e f
  exact bn_B0 (g := fun i j => decide (i ≤ j)) p)
theorem jd_gt (h : JD M a ρ t fun x t1 => ∃ i, x = .int i ∧ JD M b ρ t1 fun y t2 => ∃ j, y = .int j ∧ P (.bool (decide (i > j))) t2) : JD M (.Compare a [.Gt] [b] pos) ρ t P := jd_cmp op_gt (nomark _) (h.imp fun _ _ ⟨i, e, h1⟩ => h1.imp fun _ _ ⟨j, f, p⟩ => by
  subst e f
  exact bn_B0 (g := fun i j => decide (i > j)) p)
theorem jd_ge (h : JD M a ρ t fun x t1 => ∃ i, x = .int i ∧ JD M b ρ t1 fun y t2 => ∃ j, y = .int j ∧ P (.bool (decide (i ≥ j))) t2) : JD M (.Compare a [.GtE] [b] pos) ρ t P := jd_cmp op_ge (nomark _) (h.imp fun _ _ ⟨i, e, h1⟩ => h1.imp fun _ _ ⟨j, f, p⟩ => by
  subst e f
  exact bn_B0 (g := fun i j => decide (i ≥ j)) p)
theorem jd_eq {k : Nat} (hr : Room k X.A) (h : JD M a ρ t fun x t1 => JD M b ρ t1 fun y t2 => SeqAt.shaped x = true ∧ SeqAt.shaped y = true ∧ P (.bool (PyData.eqv x y)) t2) : JD M (.Compare a [.Eq] [b] pos) ρ t P :=
  jd_cmp (op_eqD hr.units) (nomark _) (h.imp fun x _ h1 => h1.imp fun y _ ⟨c, d, p⟩ => fun G H v w k hv hw Q q =>
    ⟨x, y, De.dpS c (De.up k.sub _ _ hv), De.dpS d (De.up k.sub _ _ hw), c, d, keep k q (.bl _) p⟩)
theorem jd_ne {k : Nat} (hr : Room k X.A) (h : JD M a ρ t fun x t1 => JD M b ρ t1 fun y t2 => SeqAt.shaped x = true ∧ SeqAt.shaped y = true ∧ P (.bool (!PyData.eqv x y)) t2) : JD M (.Compare a [.NotEq] [b] pos) ρ t P :=
  jd_cmp (op_neD hr.units) (nomark _) (h.imp fun x _ h1 => h1.imp fun y _ ⟨c, d, p⟩ => fun G H v w k hv hw Q q =>
    ⟨x, y, De.dpS c (De.up k.sub _ _ hv), De.dpS d (De.up k.sub _ _ hw), c, d, keep k q (.bl _) p⟩)
def PyData.isN : PyData → Bool
  | .none => true
  | _ => false
theorem isN_of {K : KK} {G : Hp} {v : V} {x : PyData} (h : De K G v x) : decide (v = V.non) = PyData.isN x := by
  cases h <;> simp [PyData.isN, objD, setD, excD, dctD]
theorem jd_isN {j : Nat} {p1 : Pos} (h : JD M a ρ t fun x t1 => P (.bool (PyData.isN x)) t1) : JD M (.Compare a [.Is] [.Constant .none j p1] pos) ρ t P := jd_cmp op_isN (nomark _) (h.imp fun x _ p => jd_non (fun G H v w k hv hw Q q => ⟨hw.nonE, by
  rw [isN_of hv]
  exact keep k q (.bl _) p⟩))
theorem jd_notN {j : Nat} {p1 : Pos} (h : JD M a ρ t fun x t1 => P (.bool (!PyData.isN x)) t1) : JD M (.Compare a [.IsNot] [.Constant .none j p1] pos) ρ t P := jd_cmp op_notN (nomark _) (h.imp fun x _ p => jd_non (fun G H v w k hv hw Q q => ⟨hw.nonE, by
  rw [isN_of hv]
  exact keep k q (.bl _) p⟩))
theorem jd_ltS (h : JD M a ρ t fun x t1 => ∃ i, x = .str i ∧ JD M b ρ t1 fun y t2 => ∃ j, y = .str j ∧ P (.bool (decide (i.cps.toList < j.cps.toList))) t2) : JD M (.Compare a [.Lt] [b] pos) ρ t P := jd_cmp op_lt_str (nomark _) (h.imp fun _ _ ⟨i, e, h1⟩ => h1.imp fun _ _ ⟨j, f, p⟩ => by
  subst e f
  exact fun G H v w k hv hw Q q => ⟨i, j, hv.strE, hw.strE, keep k q (.bl _) p⟩)
theorem jd_catS (h : JD M a ρ t fun x t1 => ∃ i, x = .str i ∧ JD M b ρ t1 fun y t2 => ∃ j, y = .str j ∧ i.length + j.length ≤ 16777216 ∧ P (.str (i ++ j)) t2) : JD M (.BinOp a .Add b pos) ρ t P := jd_bin op_add_str (h.imp fun _ _ ⟨i, e, h1⟩ => h1.imp fun _ _ ⟨j, f, l, p⟩ => by
  subst e f
  exact fun G H v w k hv hw Q q => ⟨i, j, hv.strE, hw.strE, line_of l, keep k q (.str _) p⟩)
/-- t + u -/
theorem jd_catT (h : JD M a ρ t fun x t1 => ∃ xs, x = .tuple xs ∧ JD M b ρ t1 fun y t2 => ∃ ys, y = .tuple ys ∧ xs.length + ys.length ≤ 16777216 ∧ P (.tuple (xs ++ ys)) t2) : JD M (.BinOp a .Add b pos) ρ t P := jd_bin op_catA (h.imp fun _ _ ⟨xs, e, h1⟩ => h1.imp fun _ _ ⟨ys, f, l, p⟩ => by
  subst e f
  intro G H v w k hv hw Q q
  obtain ⟨a1, vs, rfl, st, da⟩ := hv.tupE
  obtain ⟨a2, ws, rfl, st2, da2⟩ := hw.tupE
  have up : ∀ {c : Addr} {us : List V}, SqT X.KK G c us → SqT X.KK H c us := fun {c us} z => by
    rcases z with (z | ⟨o, z⟩) | z
    · exact .inl (.inl (k.sub _ _ z))
    · exact .inl (.inr ⟨o, k.sub _ _ z⟩)
    · exact .inr z
  refine ⟨a1, a2, vs, ws, rfl, rfl, up st, up st2, line_of (by rw [da.length, da2.length]; exact l), fun z => ?_, fun _ z => ?_, fun _ _ a3 n3 => ?_⟩
  · have z' : xs = [] := List.eq_nil_of_length_eq_zero (by rw [← da.length, z]; rfl)
    rw [z', List.nil_append] at p
    exact keep k q hw p
  · have z' : ys = [] := List.eq_nil_of_length_eq_zero (by rw [← da2.length, z]; rfl)
    rw [z', List.append_nil] at p
    exact keep k q hv p
  · have s := k.lay (o := .tup (vs ++ ws)) n3
    exact q _ _ _ _ _ s (.tup (.inl (.inl upd_same)) (DeAll.up s.gg _ _ (da.app da2))) p)
theorem none_of {K : KK} {Wo : WO} {M : Md K Wo} {t : Rs} {G H : Hp} (k : Ok M t G H) {p : Addr} (n : H p = none) : G p = none := by
  cases z : G p with
  | none => rfl
  | some o =>
    rw [k.sub _ _ z] at n
    cases n
/-- xs + ys, a new list -/
theorem jl_cat {P : List PyData → Rs → Prop} (h : JD M a ρ t fun x t1 => ∃ xs, x = .list xs ∧ JD M b ρ t1 fun y t2 => ∃ ys, y = .list ys ∧ xs.length + ys.length ≤ 16777216 ∧ P (xs ++ ys) t2) : JL M (.BinOp a .Add b pos) ρ t P := jl_bin op_cat (h.imp fun _ _ ⟨xs, e, h1⟩ => h1.imp fun _ _ ⟨ys, f, l, p⟩ => by
  subst e f
  intro G H v w k hv hw Q q
  obtain ⟨a1, vs, rfl, st, da⟩ := hv.lstE
  obtain ⟨a2, ws, rfl, st2, da2⟩ := hw.lstE
  refine ⟨a1, a2, vs, ws, rfl, rfl, k.sub _ _ st, k.sub _ _ st2, line_of (by rw [da.length, da2.length]; exact l), fun a3 n3 => ?_⟩
  exact q _ _ a3 _ _ _ (k.layO (o := .lst (vs ++ ws)) n3) n3 (none_of k n3) upd_same (da.app da2) p)
/-- x in xs, x not in xs, xs a list of data -/
theorem jd_inL {k : Nat} (hr : Room k X.A) (h : JD M a ρ t fun x t1 => JD M b ρ t1 fun y t2 => ∃ ys, y = .list ys ∧ SeqAt.shaped x = true ∧ SeqAt.shaped y = true ∧ P (.bool (ys.any fun z => PyData.eqv z x)) t2) (hm : behindInMarks .In b = false := by rfl) : JD M (.Compare a [.In] [b] pos) ρ t P :=
  jd_cmp (op_inD (by have := hr.un; omega)) hm (h.imp fun x _ h1 => h1.imp fun y _ ⟨ys, e, c, d, p⟩ => by
    subst e
    exact fun G H v w k hv hw Q q => ⟨x, ys, De.dpS c (De.up k.sub _ _ hv), De.dpS d (De.up k.sub _ _ hw), c, d, keep k q (.bl _) p⟩)
theorem jd_niL {k : Nat} (hr : Room k X.A) (h : JD M a ρ t fun x t1 => JD M b ρ t1 fun y t2 => ∃ ys, y = .list ys ∧ SeqAt.shaped x = true ∧ SeqAt.shaped y = true ∧ P (.bool (!ys.any fun z => PyData.eqv z x)) t2) (hm : behindInMarks .NotIn b = false := by rfl) : JD M (.Compare a [.NotIn] [b] pos) ρ t P :=
  jd_cmp (op_notInD (by have := hr.un; omega)) hm (h.imp fun x _ h1 => h1.imp fun y _ ⟨ys, e, c, d, p⟩ => by
    subst e
    exact fun G H v w k hv hw Q q => ⟨x, ys, De.dpS c (De.up k.sub _ _ hv), De.dpS d (De.up k.sub _ _ hw), c, d, keep k q (.bl _) p⟩)
end
section
variable {X : Cx} {pins : List (Addr × Obj)} {σ : L2.St} {H : Hp} {s : Shared}
/-- x in t, t a tuple of data of any depth -/
def rInU (K : KK) (neg : Bool) : R2 := fun x y H Q => ∃ d ds, Dp K H x d ∧ Dp K H y (.tuple ds) ∧ SeqAt.shaped d = true ∧ SeqAt.shaped (.tuple ds) = true ∧ Q (.bl (if neg then !ds.any fun z => PyData.eqv z d else ds.any fun z => PyData.eqv z d)) H
end
end Dl
end
section
set_option maxRecDepth 100000
set_option maxHeartbeats 4000000
namespace Dl
open PySem PySem.Spec PyProof.Rows L2

section
variable {K : KK} {Wo : WO} {M : Md K Wo} {t : Rs} {G H : Hp}
theorem sqt_up {G H : Hp} (e : Same G H) {c : Addr} {us : List V} (z : SqT K G c us) : SqT K H c us := by
  rcases z with (z | ⟨o, z⟩) | z
  · exact .inl (.inl (e _ _ z))
  · exact .inl (.inr ⟨o, e _ _ z⟩)
  · exact .inr z
theorem atI_of {α : Type} {xs : List α} {i : Int} {z : α} (h : atI xs i = some z) : ∃ j, ixN xs.length i = some j ∧ xs[j]? = some z := by
  unfold atI at h
  cases e : ixN xs.length i with
  | none => rw [e] at h; cases h
  | some j => rw [e] at h; exact ⟨j, rfl, h⟩
theorem DeAll.atI {vs : List V} {ds : List PyData} (h : DeAll K G vs ds) {i : Int} {z : PyData} (e : atI ds i = some z) : ∃ v, L2.atI vs i = some v ∧ De K G v z := by
  obtain ⟨j, e1, e2⟩ := atI_of e
  obtain ⟨v, e3, d⟩ := h.at_ e2
  refine ⟨v, ?_, d⟩
  unfold L2.atI
  rw [h.length, e1]
  exact e3
def cutD {α : Type} (xs : List α) (lo hi : Option Int) : List α := (xs.drop (HT.sIx xs.length 0 lo)).take (HT.sIx xs.length xs.length hi - HT.sIx xs.length 0 lo)
theorem DeAll.cut {vs : List V} {ds : List PyData} (h : DeAll K G vs ds) (lo hi : Option Int) : DeAll K G (cutV vs lo hi) (cutD ds lo hi) := by
  unfold cutV cutD
  rw [h.length]
  exact (h.drop _).take _
end
/-! ### optional parts of a slice -/
section
variable {K : KK} {Wo : WO} (M : Md K Wo)
def DO (te : TO) (ρ : List B) (t : Rs) (P : Option Int → Rs → Prop) : Prop := ∀ (σ : L2.St) (G H : Hp), Sat M t G H σ ρ → ∀ Q : Option Int → Hp → Prop,
  (∀ (G' H' : Hp) (o : Option Int) (t' : Rs), Stp M t' G H G' H' → P o t' → Q o H') → te σ H Q
end
section
variable {X : Cx} {Wo : WO} {M : Md X.KK Wo} {ρ : List B} {t : Rs} {P : PyData → Rs → Prop} {a b c e : Expr} {es : List Expr} {pos : Pos}
theorem jd_ixT (h : JD M a ρ t fun x t1 => ∃ xs, x = .tuple xs ∧ JD M b ρ t1 fun y t2 => ∃ i z, y = .int i ∧ atI xs i = some z ∧ P z t2) (hp : PlainIx b := by intro _ _; rfl) : JD M (.Subscript a b pos) ρ t P :=
  jd_of (pe_ix ix_tup peT peT hp) (dd_op (h.imp fun _ _ ⟨xs, e, h1⟩ => h1.imp fun _ _ ⟨i, z, f, g, p⟩ => by
    subst e f
    intro G H v w k hv hw Q q
    obtain ⟨a1, vs, rfl, st, da⟩ := hv.tupE
    obtain ⟨u, eu, du⟩ := da.atI g
    exact ⟨a1, vs, i, u, rfl, hw.intE, sqt_up k.sub st, eu, keep k q du p⟩))
theorem jd_ixL (h : JD M a ρ t fun x t1 => ∃ xs, x = .list xs ∧ JD M b ρ t1 fun y t2 => ∃ i z, y = .int i ∧ atI xs i = some z ∧ P z t2) (hp : PlainIx b := by intro _ _; rfl) : JD M (.Subscript a b pos) ρ t P :=
  jd_of (pe_ix ix_list peT peT hp) (dd_op (h.imp fun _ _ ⟨xs, e, h1⟩ => h1.imp fun _ _ ⟨i, z, f, g, p⟩ => by
    subst e f
    intro G H v w k hv hw Q q
    obtain ⟨a1, vs, rfl, st, da⟩ := hv.lstE
    obtain ⟨u, eu, du⟩ := da.atI g
    exact ⟨a1, vs, i, u, rfl, hw.intE, .inl (.inl (k.sub _ _ st)), eu, keep k q du p⟩))
theorem jd_ixS (h : JD M a ρ t fun x t1 => ∃ xs, x = .str xs ∧ JD M b ρ t1 fun y t2 => ∃ i z, y = .int i ∧ xs.length ≤ 16777216 ∧ atI xs.cps.toList i = some z ∧ P (.str ⟨#[z]⟩) t2) (hp : PlainIx b := by intro _ _; rfl) : JD M (.Subscript a b pos) ρ t P :=
  jd_of (pe_ix ix_str peT peT hp) (dd_op (h.imp fun _ _ ⟨xs, e, h1⟩ => h1.imp fun _ _ ⟨i, z, f, l, g, p⟩ => by
    subst e f
    intro G H v w k hv hw Q q
    exact ⟨xs, i, z, hv.strE, hw.intE, line_of l, g, keep k q (.str _) p⟩))
end
@[irreducible] def ToOf (X : Cx) (e : Option Expr) : TO := fun σ H Q => ∀ (pins : List (Addr × Obj)) (s : Shared), Inv X pins σ H s → wpAny (model X.prog X.w) X.A (evalPart e X.env) (fun u s' => ∃ o H', Inv X pins σ H' s' ∧ IsPart u o ∧ Q o H') X.xe s
theorem poT {X : Cx} {e : Option Expr} : PO X e (ToOf X e) := by unfold ToOf; exact ⟨fun pins s σ H Q I h => h pins s I⟩
theorem ToOf.of {X : Cx} {e : Option Expr} {te : TO} {σ : L2.St} {H : Hp} (h : PO X e te) {Q : Option Int → Hp → Prop} (q : te σ H Q) : ToOf X e σ H Q := by unfold ToOf; exact fun pins s I => h.run pins s σ H Q I q
section
variable {X : Cx} {Wo : WO} (M : Md X.KK Wo)
abbrev JO (e : Option Expr) (ρ : List B) (t : Rs) (P : Option Int → Rs → Prop) : Prop := DO M (ToOf X e) ρ t P
end
section
variable {X : Cx} {Wo : WO} {M : Md X.KK Wo} {ρ : List B} {t : Rs} {P : PyData → Rs → Prop} {a b c e : Expr} {es : List Expr} {pos p2 : Pos} {lo hi : Option Expr}
theorem jo_none {P : Option Int → Rs → Prop} (p : P none t) : JO M none ρ t P := fun σ G H S Q q => ToOf.of po_none (q G H _ t S.ok.refl p)
theorem jo_some {P : Option Int → Rs → Prop} (h : JD M e ρ t fun x t1 => ∃ i, x = .int i ∧ P (some i) t1) : JO M (some e) ρ t P := fun σ G H S Q q => ToOf.of (po_some peT) (h σ G H S _ fun G1 H1 v x t1 s1 d1 ⟨i, e, p⟩ => by
  subst e
  exact ⟨i, d1.intE, q G1 H1 _ t1 s1 p⟩)
theorem jd_slT (h : JD M a ρ t fun x t1 => ∃ xs, x = .tuple xs ∧ JO M lo ρ t1 fun l t2 => JO M hi ρ t2 fun u t3 => P (.tuple (cutD xs l u)) t3) : JD M (.Subscript a (.Slice lo hi none p2) pos) ρ t P :=
  jd_of (pe_slice sl_tupA peT poT poT) fun σ G H S Q q => h σ G H S _ fun G1 H1 v x t1 s1 d1 ⟨xs, e, h1⟩ => h1 σ G1 H1 (S.step s1) _ fun G2 H2 l t2 s2 h2 => h2 σ G2 H2 ((S.step s1).step s2) _ fun G3 H3 u t3 s3 p => by
    subst e
    have k := (((S.step s1).step s2).step s3).ok
    obtain ⟨a1, vs, rfl, st, da⟩ := (De.up (s2.trans s3).gg _ _ d1).tupE
    refine ⟨a1, vs, rfl, sqt_up k.sub st, fun w => ?_, fun w n1 hn => ?_⟩
    · refine q G3 H3 _ (.tuple (cutD xs l u)) t3 ((s1.trans s2).trans s3) ?_ p
      rw [da.length] at w
      have e1 : cutD xs l u = xs := by
        unfold cutD
        rw [w.1, w.2, List.drop_zero, Nat.sub_zero, List.take_length]
      rw [e1]
      exact .tup st da
    · have s4 := k.lay (o := .tup (cutV vs l u)) hn
      exact q _ _ _ _ t3 (((s1.trans s2).trans s3).trans s4) (.tup (.inl (.inl upd_same)) (DeAll.up s4.gg _ _ (da.cut l u))) p
theorem jl_slL {P : List PyData → Rs → Prop} (h : JD M a ρ t fun x t1 => ∃ xs, x = .list xs ∧ JO M lo ρ t1 fun l t2 => JO M hi ρ t2 fun u t3 => P (cutD xs l u) t3) : JL M (.Subscript a (.Slice lo hi none p2) pos) ρ t P :=
  jl_of (pe_slice sl_list peT poT poT) fun σ G H S Q q => h σ G H S _ fun G1 H1 v x t1 s1 d1 ⟨xs, e, h1⟩ => h1 σ G1 H1 (S.step s1) _ fun G2 H2 l t2 s2 h2 => h2 σ G2 H2 ((S.step s1).step s2) _ fun G3 H3 u t3 s3 p => by
    subst e
    have k := (((S.step s1).step s2).step s3).ok
    obtain ⟨a1, vs, rfl, st, da⟩ := (De.up (s2.trans s3).gg _ _ d1).lstE
    refine ⟨a1, vs, rfl, .inl (.inl (k.sub _ _ st)), fun n1 hn => ?_⟩
    have s4 := k.layO (o := .lst (cutV vs l u)) hn
    exact q _ _ n1 _ _ t3 (((s1.trans s2).trans s3).trans s4) (fresh_of ((s1.trans s2).trans s3) hn) (none_of k hn) upd_same (da.cut l u) p
theorem jd_slS (h : JD M a ρ t fun x t1 => ∃ z, x = .str z ∧ JO M lo ρ t1 fun l t2 => JO M hi ρ t2 fun u t3 => z.length ≤ 16777216 ∧ P (.str (cutS z l u)) t3) : JD M (.Subscript a (.Slice lo hi none p2) pos) ρ t P :=
  jd_of (pe_slice sl_str peT poT poT) fun σ G H S Q q => h σ G H S _ fun G1 H1 v x t1 s1 d1 ⟨z, e, h1⟩ => h1 σ G1 H1 (S.step s1) _ fun G2 H2 l t2 s2 h2 => h2 σ G2 H2 ((S.step s1).step s2) _ fun G3 H3 u t3 s3 ⟨g, p⟩ => by
    subst e
    exact ⟨z, d1.strE, line_of g, q G3 H3 _ _ t3 ((s1.trans s2).trans s3) (.str _) p⟩
/-- xs[::-1] of a list -/
theorem jl_rev {P : List PyData → Rs → Prop} {k : Nat} {p1 p3 p4 : Pos} (h : JD M a ρ t fun x t1 => ∃ xs, x = .list xs ∧ P xs.reverse t1) : JL M (.Subscript a (.Slice none none (some (.UnaryOp .USub (.Constant (.int 1) k p1) p3)) p4) pos) ρ t P :=
  jl_of (pe_revL peT) fun σ G H S Q q => h σ G H S _ fun G1 H1 v x t1 s1 d1 ⟨xs, e, p⟩ => by
    subst e
    have k := (S.step s1).ok
    obtain ⟨a1, vs, rfl, st, da⟩ := d1.lstE
    refine ⟨a1, vs, rfl, .inl (.inl (k.sub _ _ st)), fun n1 hn => ?_⟩
    have s4 := k.layO (o := .lst vs.reverse) hn
    exact q _ _ n1 _ _ t1 (s1.trans s4) (fresh_of s1 hn) (none_of k hn) upd_same da.rev p

/-! ### calls of built-ins -/
theorem jd_callB {x : Str} {id : String} {r : List V → Hp → VK → Prop} {p : Pos} (hc : CallR X (.builtin id) r) (hg : Gl X x) (hm : X.mg x = none) (hb : bootBuiltins x = some (.builtin id)) (h : JA M (e :: es) ρ t fun bs t1 => Cn M r bs t1 P)
    (h1 : x ≠ Str.ofString "__name__" := by decide) (h2 : (x == Str.ofString "__debug__") = false := by decide) (h3 : starEach (e :: es) X.env = (false, eval e X.env) :: starEach es X.env := by rfl)
    (h4 : ((backTo pos (starEach es X.env)).any fun x => x.fst) = false := by rfl) : JD M (.Call (.Name x p) (e :: es) [] pos) ρ t P :=
  jd_of (pe_callB hc hg hm hb paT h1 h2 h3 h4) fun σ G H S Q q => h σ G H S _ fun G1 H1 vs bs t1 s1 a1 c => c G1 H1 vs (S.step s1).ok a1 Q fun G2 H2 u z t2 s2 d2 p => q G2 H2 u z t2 (s1.trans s2) d2 p
theorem jd_callTy {x : Str} {T : String} {r : List V → Hp → VK → Prop} {p : Pos} (hc : CallR X (.type T) r) (hg : Gl X x) (hm : X.mg x = none) (hb : bootBuiltins x = some (.type T)) (h : JA M (e :: es) ρ t fun bs t1 => Cn M r bs t1 P)
    (h1 : x ≠ Str.ofString "__name__" := by decide) (h2 : (x == Str.ofString "__debug__") = false := by decide) (h3 : starEach (e :: es) X.env = (false, eval e X.env) :: starEach es X.env := by rfl)
    (h4 : ((backTo pos (starEach es X.env)).any fun x => x.fst) = false := by rfl) : JD M (.Call (.Name x p) (e :: es) [] pos) ρ t P :=
  jd_of (pe_callTy hc hg hm hb paT h1 h2 h3 h4) fun σ G H S Q q => h σ G H S _ fun G1 H1 vs bs t1 s1 a1 c => c G1 H1 vs (S.step s1).ok a1 Q fun G2 H2 u z t2 s2 d2 p => q G2 H2 u z t2 (s1.trans s2) d2 p
theorem jl_callTy {x : Str} {T : String} {r : List V → Hp → VK → Prop} {p : Pos} {P : List PyData → Rs → Prop} (hc : CallR X (.type T) r) (hg : Gl X x) (hm : X.mg x = none) (hb : bootBuiltins x = some (.type T)) (h : JA M (e :: es) ρ t fun bs t1 => CnL M r bs t1 P)
    (h1 : x ≠ Str.ofString "__name__" := by decide) (h2 : (x == Str.ofString "__debug__") = false := by decide) (h3 : starEach (e :: es) X.env = (false, eval e X.env) :: starEach es X.env := by rfl)
    (h4 : ((backTo pos (starEach es X.env)).any fun x => x.fst) = false := by rfl) : JL M (.Call (.Name x p) (e :: es) [] pos) ρ t P :=
  jl_of (pe_callTy hc hg hm hb paT h1 h2 h3 h4) fun σ G H S Q q => h σ G H S _ fun G1 H1 vs bs t1 s1 a1 c => c G1 H1 vs (S.step s1).ok a1 Q fun G2 H2 l ws xs t2 s2 n g e a p => q G2 H2 l ws xs t2 (s1.trans s2) (fresh_of s1 n) g e a p
theorem jl_callB {x : Str} {id : String} {r : List V → Hp → VK → Prop} {p : Pos} {P : List PyData → Rs → Prop} (hc : CallR X (.builtin id) r) (hg : Gl X x) (hm : X.mg x = none) (hb : bootBuiltins x = some (.builtin id)) (h : JA M (e :: es) ρ t fun bs t1 => CnL M r bs t1 P)
    (h1 : x ≠ Str.ofString "__name__" := by decide) (h2 : (x == Str.ofString "__debug__") = false := by decide) (h3 : starEach (e :: es) X.env = (false, eval e X.env) :: starEach es X.env := by rfl)
    (h4 : ((backTo pos (starEach es X.env)).any fun x => x.fst) = false := by rfl) : JL M (.Call (.Name x p) (e :: es) [] pos) ρ t P :=
  jl_of (pe_callB hc hg hm hb paT h1 h2 h3 h4) fun σ G H S Q q => h σ G H S _ fun G1 H1 vs bs t1 s1 a1 c => c G1 H1 vs (S.step s1).ok a1 Q fun G2 H2 l ws xs t2 s2 n g e a p => q G2 H2 l ws xs t2 (s1.trans s2) (fresh_of s1 n) g e a p
end
section
variable {X : Cx} {Wo : WO} {M : Md X.KK Wo} {t : Rs} {P : PyData → Rs → Prop}
theorem arg1 {K : KK} {Wo : WO} {M : Md K Wo} {G : Hp} {vs : List V} {x : PyData} (a : ArgAll M G vs [.d x]) : ∃ v, vs = [v] ∧ De K G v x := by
  cases a with
  | cons h r =>
    cases r
    cases h with
    | d h => exact ⟨_, rfl, h⟩
/-- how long: a text, a list, a tuple -/
def lenD : PyData → Option Nat
  | .str y => some y.length
  | .list xs => some xs.length
  | .tuple xs => some xs.length
  | _ => none
theorem cn_len {x : PyData} {n : Nat} (e : lenD x = some n) (hn : n ≤ 16777216) (p : P (.int n) t) : Cn M (fun xs H Q => ∃ x n, xs = [x] ∧ LenV X.KK x H n ∧ Q (.int n) H) [.d x] t P := fun G H vs k a Q q => by
  obtain ⟨v, rfl, d⟩ := arg1 a
  refine ⟨v, n, rfl, ?_, keep k q (.int _) p⟩
  cases d with
  | str y =>
    cases e
    exact ⟨line_of hn, rfl⟩
  | lst h1 h2 =>
    cases e
    exact .inl ⟨_, .inl (.inl (k.sub _ _ h1)), h2.length.symm⟩
  | tup h1 h2 =>
    cases e
    exact .inr ⟨_, sqt_up k.sub h1, h2.length.symm⟩
  | non => cases e
  | bl => cases e
  | int => cases e
  | obj => cases e
  | setO => cases e
  | dctO => cases e
  | exc => cases e
theorem cn_tuple {xs : List PyData} {x : PyData} (e : x = .list xs ∨ x = .tuple xs) (p : P (.tuple xs) t) : Cn M (fun xs H Q => ∃ p ys, xs = [.ref p] ∧ ((SqL X.KK H p ys ∧ ∀ l, H l = none → Q (.ref l) (upd H l (.tup ys))) ∨ (SqT X.KK H p ys ∧ Q (.ref p) H))) [.d x] t P := fun G H vs k a Q q => by
  obtain ⟨v, rfl, d⟩ := arg1 a
  rcases e with e | e
  · subst e
    obtain ⟨a1, ws, rfl, st, da⟩ := d.lstE
    refine ⟨a1, ws, rfl, .inl ⟨.inl (.inl (k.sub _ _ st)), fun l hl => ?_⟩⟩
    have s := k.lay (o := .tup ws) hl
    exact q _ _ _ _ _ s (.tup (.inl (.inl upd_same)) (DeAll.up s.gg _ _ da)) p
  · subst e
    obtain ⟨a1, ws, rfl, st, da⟩ := d.tupE
    exact ⟨a1, ws, rfl, .inr ⟨sqt_up k.sub st, keep k q d p⟩⟩
theorem cn_list {xs : List PyData} {x : PyData} {P : List PyData → Rs → Prop} (e : x = .list xs ∨ x = .tuple xs) (p : P xs t) : CnL M (fun xs H Q => ∃ p ys, xs = [.ref p] ∧ (SqL X.KK H p ys ∨ SqT X.KK H p ys) ∧ ∀ l, H l = none → Q (.ref l) (upd H l (.lst ys))) [.d x] t P := fun G H vs k a Q q => by
  obtain ⟨v, rfl, d⟩ := arg1 a
  rcases e with e | e
  · subst e
    obtain ⟨a1, ws, rfl, st, da⟩ := d.lstE
    exact ⟨a1, ws, rfl, .inl (.inl (.inl (k.sub _ _ st))), fun l hl => q _ _ _ _ _ _ (k.layO (o := .lst ws) hl) hl (none_of k hl) upd_same da p⟩
  · subst e
    obtain ⟨a1, ws, rfl, st, da⟩ := d.tupE
    exact ⟨a1, ws, rfl, .inr (sqt_up k.sub st), fun l hl => q _ _ _ _ _ _ (k.layO (o := .lst ws) hl) hl (none_of k hl) upd_same da p⟩
theorem cn_int {i : Int} (p : P (.int i) t) : Cn M (fun xs H Q => (∃ i, xs = [.int i] ∧ Q (.int i) H) ∨ ∃ k, xs = [.bl k] ∧ Q (.int (if k = true then 1 else 0)) H) [.d (.int i)] t P := fun G H vs k a Q q => by
  obtain ⟨v, rfl, d⟩ := arg1 a
  exact .inl ⟨i, by rw [d.intE], keep k q (.int _) p⟩
theorem cn_all {bs : List Bool} (p : P (.bool (bs.all id)) t) : Cn M (rAll X.KK) [.d (.list (bs.map PyData.bool))] t P := fun G H vs k a Q q => by
  obtain ⟨v, rfl, d⟩ := arg1 a
  obtain ⟨a1, ws, rfl, st, da⟩ := d.lstE
  exact ⟨a1, bs, rfl, .inl (.inl (by rw [k.sub _ _ st, da.bls])), keep k q (.bl _) p⟩
theorem cn_any {bs : List Bool} (p : P (.bool (bs.any id)) t) : Cn M (rAny X.KK) [.d (.list (bs.map PyData.bool))] t P := fun G H vs k a Q q => by
  obtain ⟨v, rfl, d⟩ := arg1 a
  obtain ⟨a1, ws, rfl, st, da⟩ := d.lstE
  exact ⟨a1, bs, rfl, .inl (.inl (by rw [k.sub _ _ st, da.bls])), keep k q (.bl _) p⟩
theorem cn_str {i : Int} (l : i.natAbs.log2 < 1920) (p : P (.str (Str.ofString (toString i))) t) : Cn M (fun xs H Q => ∃ i, xs = [.int i] ∧ i.natAbs.log2 < 1920 ∧ Q (.str (Str.ofString (toString i))) H) [.d (.int i)] t P := fun G H vs k a Q q => by
  obtain ⟨v, rfl, d⟩ := arg1 a
  exact ⟨i, by rw [d.intE], l, keep k q (.str _) p⟩
/-! isinstance -/
def tyD : PyData → String
  | .none => "NoneType"
  | .bool _ => "bool"
  | .int _ => "int"
  | .str _ => "str"
  | .list _ => "list"
  | .tuple _ => "tuple"
  | .dict _ => "dict"
theorem tyx_of {K : KK} {G : Hp} {v : V} {x : PyData} (h : De K G v x) (n : noD x = true) : TyX K G v (.type (tyD x)) := by
  cases h with
  | obj => simp [noD, objD] at n
  | setO => simp [noD, setD] at n
  | dctO => simp [noD, dctD] at n
  | exc => simp [noD, excD] at n
  | non => exact .base .non
  | bl b => exact .base (.bl b)
  | int b => exact .base (.int b)
  | str b => exact .base (.str b)
  | lst e _ => exact .base (.lst e)
  | tup e _ =>
    rcases e with (e | ⟨o, e⟩) | ⟨o, its, n, e, c, _⟩
    · exact .base (.tup e)
    · exact .fTuple e
    · exact .kTuple e c
/-- the answer of isinstance for the built-in classes that laws name -/
def isiD (T : String) (x : PyData) : Bool := tyD x == T || (T == "int" && tyD x == "bool")
theorem isi_kit {K : PySem.W.Frag} {T : String} (hT : T ∈ ["int", "bool", "str", "tuple", "list"]) (x : PyData) : PySem.W.kitOne K (.type (tyD x)) (.type T) = some (isiD T x) := by
  refine kit_ty ?_
  simp only [List.mem_cons, List.not_mem_nil, or_false] at hT
  rcases hT with rfl | rfl | rfl | rfl | rfl <;> cases x <;> (simp only [tyD, isiD]; decide +kernel)
theorem jd_isi {ρ : List B} {e : Expr} {x T : Str} {Ts : String} {pos p1 p2 : Pos} (hx : x = Str.ofString "isinstance") (hg : Gl X x) (hm : X.mg x = none) (hg2 : Gl X T) (hm2 : X.mg T = none) (hb2 : bootBuiltins T = some (.type Ts)) (hT : Ts ∈ ["int", "bool", "str", "tuple", "list"])
    (h : JD M e ρ t fun z t1 => noD z = true ∧ P (.bool (isiD Ts z)) t1) (n2 : T ≠ Str.ofString "__name__" := by decide) (n3 : (T == Str.ofString "__debug__") = false := by decide)
    (h3 : starEach [e, .Name T p2] X.env = (false, eval e X.env) :: starEach [.Name T p2] X.env := by rfl)
    (h4 : ((backTo pos (starEach [.Name T p2] X.env)).any fun x => x.fst) = false := by rfl) (h5 : starEach [.Name T p2] X.env = (false, eval (.Name T p2) X.env) :: starEach [] X.env := by rfl) : JD M (.Call (.Name x p1) [e, .Name T p2] [] pos) ρ t P :=
  jd_of (pe_callB call_isi hg hm (by rw [hx]; exact boot_isinstance) (pa_cons peT (pa_cons (pe_bltn (v := .ty Ts) hg2 hm2 hb2 rfl n2 n3) pa_nil h5) h3) (by rw [hx]; decide) (by rw [hx]; decide) h3 h4) fun σ G H S Q q =>
    h σ G H S _ fun G1 H1 v z t1 s1 d1 ⟨nz, p⟩ => ⟨v, .ty Ts, _, _, _, rfl, .ty Ts, tyx_of (De.up (S.step s1).ok.sub _ _ d1) nz, isi_kit hT z, q G1 H1 _ _ t1 s1 (.bl _) p⟩
/-- isinstance(x, (S, T)) -/
theorem jd_isi2 {ρ : List B} {e : Expr} {x S T : Str} {Ss Ts : String} {pos p1 p2 p3 p4 : Pos} {k : Nat} (hx : x = Str.ofString "isinstance") (hg : Gl X x) (hm : X.mg x = none) (hg1 : Gl X S) (hm1 : X.mg S = none) (hb1 : bootBuiltins S = some (.type Ss)) (hS : Ss ∈ ["int", "bool", "str", "tuple", "list"])
    (hg2 : Gl X T) (hm2 : X.mg T = none) (hb2 : bootBuiltins T = some (.type Ts)) (hT : Ts ∈ ["int", "bool", "str", "tuple", "list"])
    (h : JD M e ρ t fun z t1 => noD z = true ∧ P (.bool (isiD Ss z || isiD Ts z)) t1) (n1 : S ≠ Str.ofString "__name__" := by decide) (n4 : (S == Str.ofString "__debug__") = false := by decide) (n2 : T ≠ Str.ofString "__name__" := by decide) (n3 : (T == Str.ofString "__debug__") = false := by decide)
    (h3 : starEach [e, .Tuple [.Name S p2, .Name T p3] k p4] X.env = (false, eval e X.env) :: starEach [.Tuple [.Name S p2, .Name T p3] k p4] X.env := by rfl)
    (h4 : ((backTo pos (starEach [.Tuple [.Name S p2, .Name T p3] k p4] X.env)).any fun x => x.fst) = false := by rfl) (h5 : starEach [.Tuple [.Name S p2, .Name T p3] k p4] X.env = (false, eval (.Tuple [.Name S p2, .Name T p3] k p4) X.env) :: starEach [] X.env := by rfl)
    (h6 : starEach [.Name S p2, .Name T p3] X.env = (false, eval (.Name S p2) X.env) :: starEach [.Name T p3] X.env := by rfl) (h7 : starEach [.Name T p3] X.env = (false, eval (.Name T p3) X.env) :: starEach [] X.env := by rfl) :
    JD M (.Call (.Name x p1) [e, .Tuple [.Name S p2, .Name T p3] k p4] [] pos) ρ t P :=
  jd_of (pe_callB call_isiT hg hm (by rw [hx]; exact boot_isinstance) (pa_cons peT (pa_cons (pe_tup (pa_cons (pe_bltn (v := .ty Ss) hg1 hm1 hb1 rfl n1 n4) (pa_cons (pe_bltn (v := .ty Ts) hg2 hm2 hb2 rfl n2 n3) pa_nil h7) h6)) pa_nil h5) h3) (by rw [hx]; decide) (by rw [hx]; decide) h3 h4) fun σ G H S0 Q q =>
    h σ G H S0 _ fun G1 H1 v z t1 s1 d1 ⟨nz, p⟩ => ⟨by rw [sizeLine_eq]; exact (by decide : 2 ≤ 16777216), fun tp htp => by
      have k1 := (S0.step s1).ok
      have s2 := k1.layO (o := .tup [.ty Ss, .ty Ts]) htp
      refine ⟨v, tp, [.ty Ss, .ty Ts], _, _, _, rfl, upd_same, .cons (.ty Ss) (.cons (.ty Ts) .nil), tyx_of (De.up s2.sub _ _ d1) nz, ?_, q G1 _ _ _ t1 (s1.trans s2) (.bl (isiD Ss z || isiD Ts z)) p⟩
      unfold PySem.W.kitAny
      rw [isi_kit hS z]
      cases isiD Ss z with
      | true => rfl
      | false =>
        unfold PySem.W.kitAny
        rw [isi_kit hT z]
        cases isiD Ts z <;> rfl⟩
end
end Dl
end
section
set_option maxRecDepth 100000
set_option maxHeartbeats 4000000
namespace Dl
open PySem PySem.Spec PyProof.Rows L2

/-! ### tests and truth values -/
section
variable {X : Cx} {Wo : WO} {M : Md X.KK Wo} {ρ : List B} {t : Rs} {P : PyData → Rs → Prop} {a b c e : Expr} {es rest : List Expr} {pos : Pos}
/-- an expression that gives True or False as a test -/
theorem jt_val {P : Bool → Rs → Prop} (h : JD M e ρ t fun x t1 => ∃ k, x = .bool k ∧ P k t1) (hw : ∀ (whole : Sem Value), PySem.isTrue e X.env whole = (do let v ← whole; standAt e.pos; holding [v] (truthy v)) := by intro _; rfl) : JT M e ρ t P :=
  jt_of (pt_val peT hw) fun σ G H S Q q => h σ G H S _ fun G1 H1 v x t1 s1 d1 ⟨k, e, p⟩ => by
    subst e
    exact ⟨k, d1.blE, q G1 H1 k t1 s1 p⟩
theorem jt_cmp {op : CmpOp} {r : R2} {P : Bool → Rs → Prop} (ho : OpR X (compareOp op) r) (hm : behindInMarks op b = false) (h : JD M a ρ t fun x t1 => JD M b ρ t1 fun y t2 => Bn M r x y t2 fun z t3 => ∃ k, z = .bool k ∧ P k t3) : JT M (.Compare a [op] [b] pos) ρ t P :=
  jt_of (pt_cmpR ho peT peT hm) fun σ G H S Q q => (dd_op h) σ G H S _ fun G1 H1 v x t1 s1 d1 ⟨k, e, p⟩ => by
    subst e
    exact ⟨k, d1.blE, q G1 H1 k t1 s1 p⟩
/-! comparisons as tests -/
theorem jt_lt {P : Bool → Rs → Prop} (h : JD M a ρ t fun x t1 => ∃ i, x = .int i ∧ JD M b ρ t1 fun y t2 => ∃ j, y = .int j ∧ P ((decide (i < j))) t2) : JT M (.Compare a [.Lt] [b] pos) ρ t P := jt_cmp op_lt (nomark _) (h.imp fun _ _ ⟨i, e, h1⟩ => h1.imp fun _ _ ⟨j, f, p⟩ => by
  subst e f
  exact bn_B0 (g := fun i j => decide (i < j)) ⟨_, rfl, p⟩)
theorem jt_le {P : Bool → Rs → Prop} (h : JD M a ρ t fun x t1 => ∃ i, x = .int i ∧ JD M b ρ t1 fun y t2 => ∃ j, y = .int j ∧ P ((decide (i ≤ j))) t2) : JT M (.Compare a [.LtE] [b] pos) ρ t P := jt_cmp op_le (nomark _) (h.imp fun _ _ ⟨i, e, h1⟩ => h1.imp fun _ _ ⟨j, f, p⟩ => by
  subst e f
  exact bn_B0 (g := fun i j => decide (i ≤ j)) ⟨_, rfl, p⟩)
theorem jt_gt {P : Bool → Rs → Prop} (h : JD M a ρ t fun x t1 => ∃ i, x = .int i ∧ JD M b ρ t1 fun y t2 => ∃ j, y = .int j ∧ P ((decide (i > j))) t2) : JT M (.Compare a [.Gt] [b] pos) ρ t P := jt_cmp op_gt (nomark _) (h.imp fun _ _ ⟨i, e, h1⟩ => h1.imp fun _ _ ⟨j, f, p⟩ => by
  subst e f
  exact bn_B0 (g := fun i j => decide (i > j)) ⟨_, rfl, p⟩)
theorem jt_ge {P : Bool → Rs → Prop} (h : JD M a ρ t fun x t1 => ∃ i, x = .int i ∧ JD M b ρ t1 fun y t2 => ∃ j, y = .int j ∧ P ((decide (i ≥ j))) t2) : JT M (.Compare a [.GtE] [b] pos) ρ t P := jt_cmp op_ge (nomark _) (h.imp fun _ _ ⟨i, e, h1⟩ => h1.imp fun _ _ ⟨j, f, p⟩ => by
  subst e f
  exact bn_B0 (g := fun i j => decide (i ≥ j)) ⟨_, rfl, p⟩)
theorem jt_eq {P : Bool → Rs → Prop} {k : Nat} (hr : Room k X.A) (h : JD M a ρ t fun x t1 => JD M b ρ t1 fun y t2 => SeqAt.shaped x = true ∧ SeqAt.shaped y = true ∧ P ((PyData.eqv x y)) t2) : JT M (.Compare a [.Eq] [b] pos) ρ t P :=
  jt_cmp (op_eqD hr.units) (nomark _) (h.imp fun x _ h1 => h1.imp fun y _ ⟨c, d, p⟩ => fun G H v w k hv hw Q q =>
    ⟨x, y, De.dpS c (De.up k.sub _ _ hv), De.dpS d (De.up k.sub _ _ hw), c, d, keep k q (.bl _) ⟨_, rfl, p⟩⟩)
theorem jt_ne {P : Bool → Rs → Prop} {k : Nat} (hr : Room k X.A) (h : JD M a ρ t fun x t1 => JD M b ρ t1 fun y t2 => SeqAt.shaped x = true ∧ SeqAt.shaped y = true ∧ P ((!PyData.eqv x y)) t2) : JT M (.Compare a [.NotEq] [b] pos) ρ t P :=
  jt_cmp (op_neD hr.units) (nomark _) (h.imp fun x _ h1 => h1.imp fun y _ ⟨c, d, p⟩ => fun G H v w k hv hw Q q =>
    ⟨x, y, De.dpS c (De.up k.sub _ _ hv), De.dpS d (De.up k.sub _ _ hw), c, d, keep k q (.bl _) ⟨_, rfl, p⟩⟩)
theorem jt_isN {P : Bool → Rs → Prop} {j : Nat} {p1 : Pos} (h : JD M a ρ t fun x t1 => P ((PyData.isN x)) t1) : JT M (.Compare a [.Is] [.Constant .none j p1] pos) ρ t P := jt_cmp op_isN (nomark _) (h.imp fun x _ p => jd_non (fun G H v w k hv hw Q q => ⟨hw.nonE, by
  rw [isN_of hv]
  exact keep k q (.bl _) ⟨_, rfl, p⟩⟩))
theorem jt_notN {P : Bool → Rs → Prop} {j : Nat} {p1 : Pos} (h : JD M a ρ t fun x t1 => P ((!PyData.isN x)) t1) : JT M (.Compare a [.IsNot] [.Constant .none j p1] pos) ρ t P := jt_cmp op_notN (nomark _) (h.imp fun x _ p => jd_non (fun G H v w k hv hw Q q => ⟨hw.nonE, by
  rw [isN_of hv]
  exact keep k q (.bl _) ⟨_, rfl, p⟩⟩))
theorem jt_ltS {P : Bool → Rs → Prop} (h : JD M a ρ t fun x t1 => ∃ i, x = .str i ∧ JD M b ρ t1 fun y t2 => ∃ j, y = .str j ∧ P ((decide (i.cps.toList < j.cps.toList))) t2) : JT M (.Compare a [.Lt] [b] pos) ρ t P := jt_cmp op_lt_str (nomark _) (h.imp fun _ _ ⟨i, e, h1⟩ => h1.imp fun _ _ ⟨j, f, p⟩ => by
  subst e f
  exact fun G H v w k hv hw Q q => ⟨i, j, hv.strE, hw.strE, keep k q (.bl _) ⟨_, rfl, p⟩⟩)
theorem jt_inL {P : Bool → Rs → Prop} {k : Nat} (hr : Room k X.A) (h : JD M a ρ t fun x t1 => JD M b ρ t1 fun y t2 => ∃ ys, y = .list ys ∧ SeqAt.shaped x = true ∧ SeqAt.shaped y = true ∧ P ((ys.any fun z => PyData.eqv z x)) t2) (hm : behindInMarks .In b = false := by rfl) : JT M (.Compare a [.In] [b] pos) ρ t P :=
  jt_cmp (op_inD (by have := hr.un; omega)) hm (h.imp fun x _ h1 => h1.imp fun y _ ⟨ys, e, c, d, p⟩ => by
    subst e
    exact fun G H v w k hv hw Q q => ⟨x, ys, De.dpS c (De.up k.sub _ _ hv), De.dpS d (De.up k.sub _ _ hw), c, d, keep k q (.bl _) ⟨_, rfl, p⟩⟩)
theorem jt_niL {P : Bool → Rs → Prop} {k : Nat} (hr : Room k X.A) (h : JD M a ρ t fun x t1 => JD M b ρ t1 fun y t2 => ∃ ys, y = .list ys ∧ SeqAt.shaped x = true ∧ SeqAt.shaped y = true ∧ P ((!ys.any fun z => PyData.eqv z x)) t2) (hm : behindInMarks .NotIn b = false := by rfl) : JT M (.Compare a [.NotIn] [b] pos) ρ t P :=
  jt_cmp (op_notInD (by have := hr.un; omega)) hm (h.imp fun x _ h1 => h1.imp fun y _ ⟨ys, e, c, d, p⟩ => by
    subst e
    exact fun G H v w k hv hw Q q => ⟨x, ys, De.dpS c (De.up k.sub _ _ hv), De.dpS d (De.up k.sub _ _ hw), c, d, keep k q (.bl _) ⟨_, rfl, p⟩⟩)
/-- truth of data -/
def truD : PyData → Bool
  | .none => false
  | .bool b => b
  | .int i => i != 0
  | .str y => (y.length : Int) != 0
  | .list xs => !xs.isEmpty
  | .tuple xs => !xs.isEmpty
  | .dict _ => false
theorem empty_eq {K : KK} {G : Hp} {vs : List V} {ds : List PyData} (h : DeAll K G vs ds) : (!ds.isEmpty) = !vs.isEmpty := by
  cases h <;> rfl
theorem tru_of {K : KK} {G H : Hp} (e : Same G H) {v : V} {x : PyData} (h : De K G v x) (n : noD x = true) (hs : ∀ y, x = .str y → y.length ≤ 16777216) : TruV K v H (truD x) := by
  cases h with
  | obj => simp [noD, objD] at n
  | setO => simp [noD, setD] at n
  | dctO => simp [noD, dctD] at n
  | exc => simp [noD, excD] at n
  | non => rfl
  | bl b => rfl
  | int i => rfl
  | str y => exact ⟨line_of (hs y rfl), rfl⟩
  | lst g d => exact .inl ⟨_, .inl (.inl (e _ _ g)), empty_eq d⟩
  | tup g d => exact .inr (.inl ⟨_, sqt_up e g, empty_eq d⟩)
theorem jt_tru {P : Bool → Rs → Prop} (h : JD M e ρ t fun x t1 => (noD x = true ∧ ∀ y, x = .str y → y.length ≤ 16777216) ∧ P (truD x) t1) (hw : ∀ (whole : Sem Value), PySem.isTrue e X.env whole = (do let v ← whole; standAt e.pos; holding [v] (truthy v)) := by intro _; rfl) : JT M e ρ t P :=
  jt_of (pt_truth peT hw) fun σ G H S Q q => h σ G H S _ fun G1 H1 v x t1 s1 d1 ⟨hy, p⟩ => ⟨truD x, tru_of (S.step s1).ok.sub d1 hy.1 hy.2, q G1 H1 _ t1 s1 p⟩
theorem jt_not {P : Bool → Rs → Prop} (h : JT M e ρ t fun k t1 => P (!k) t1) : JT M (.UnaryOp .Not e pos) ρ t P := jt_of (pt_not ptT) fun σ G H S Q q => h σ G H S _ fun G1 H1 k t1 s1 p => q G1 H1 _ t1 s1 p
theorem jt_w {P : Bool → Rs → Prop} (h : JW M e ρ t P) : JT M e ρ t P := jt_of (PW.pt pwT) h
theorem jw_and {P : Bool → Rs → Prop} (h : JT M a ρ t fun k t1 => (k = true → JW M (.BoolOp .And (b :: rest) pos) ρ t1 P) ∧ (k = false → P false t1)) : JW M (.BoolOp .And (a :: b :: rest) pos) ρ t P := jw_of (pw_and ptT pwT) fun σ G H S Q q =>
  h σ G H S _ fun G1 H1 k t1 s1 ⟨h1, h2⟩ => by
    cases k with
    | true => exact iteT (h1 rfl σ G1 H1 (S.step s1) _ fun G2 H2 k2 t2 s2 p => q G2 H2 k2 t2 (s1.trans s2) p)
    | false => exact iteF (q G1 H1 false t1 s1 (h2 rfl))
theorem jw_and1 {P : Bool → Rs → Prop} (h : JT M a ρ t P) : JW M (.BoolOp .And [a] pos) ρ t P := jw_of (pw_and1 ptT) h
theorem jw_or {P : Bool → Rs → Prop} (h : JT M a ρ t fun k t1 => (k = false → JW M (.BoolOp .Or (b :: rest) pos) ρ t1 P) ∧ (k = true → P true t1)) : JW M (.BoolOp .Or (a :: b :: rest) pos) ρ t P := jw_of (pw_or ptT pwT) fun σ G H S Q q =>
  h σ G H S _ fun G1 H1 k t1 s1 ⟨h1, h2⟩ => by
    cases k with
    | false => exact iteF (h1 rfl σ G1 H1 (S.step s1) _ fun G2 H2 k2 t2 s2 p => q G2 H2 k2 t2 (s1.trans s2) p)
    | true => exact iteT (q G1 H1 true t1 s1 (h2 rfl))
theorem jw_or1 {P : Bool → Rs → Prop} (h : JT M a ρ t P) : JW M (.BoolOp .Or [a] pos) ρ t P := jw_of (pw_or1 ptT) h
/-- a and b as a value, a True or False -/
theorem jd_and (h : JD M a ρ t fun x t1 => ∃ k, x = .bool k ∧ (k = true → JD M (.BoolOp .And (b :: rest) pos) ρ t1 P) ∧ (k = false → P (.bool false) t1)) : JD M (.BoolOp .And (a :: b :: rest) pos) ρ t P := jd_of (pe_and peT peT) fun σ G H S Q q =>
  h σ G H S _ fun G1 H1 v x t1 s1 d1 ⟨k, e, h1, h2⟩ => by
    subst e
    refine ⟨k, d1.blE, ?_⟩
    cases k with
    | true => exact iteT (h1 rfl σ G1 H1 (S.step s1) _ fun G2 H2 u z t2 s2 d2 p => q G2 H2 u z t2 (s1.trans s2) d2 p)
    | false => exact iteF (q G1 H1 _ _ t1 s1 (.bl false) (h2 rfl))
theorem jd_or (h : JD M a ρ t fun x t1 => ∃ k, x = .bool k ∧ (k = false → JD M (.BoolOp .Or (b :: rest) pos) ρ t1 P) ∧ (k = true → P (.bool true) t1)) : JD M (.BoolOp .Or (a :: b :: rest) pos) ρ t P := jd_of (pe_or peT peT) fun σ G H S Q q =>
  h σ G H S _ fun G1 H1 v x t1 s1 d1 ⟨k, e, h1, h2⟩ => by
    subst e
    refine ⟨k, d1.blE, ?_⟩
    cases k with
    | false => exact iteF (h1 rfl σ G1 H1 (S.step s1) _ fun G2 H2 u z t2 s2 d2 p => q G2 H2 u z t2 (s1.trans s2) d2 p)
    | true => exact iteT (q G1 H1 _ _ t1 s1 (.bl true) (h2 rfl))
theorem jd_one {op : BoolOp} (h : JD M a ρ t P) : JD M (.BoolOp op [a] pos) ρ t P := jd_of (pe_one peT) h
theorem jd_not (h : JD M a ρ t fun x t1 => ∃ k, x = .bool k ∧ P (.bool (!k)) t1) : JD M (.UnaryOp .Not a pos) ρ t P := jd_of (pe_not peT) fun σ G H S Q q =>
  h σ G H S _ fun G1 H1 v x t1 s1 d1 ⟨k, e, p⟩ => by
    subst e
    exact ⟨k, d1.blE, q G1 H1 _ _ t1 s1 (.bl _) p⟩
theorem jd_if (h : JT M c ρ t fun k t1 => (k = true → JD M a ρ t1 P) ∧ (k = false → JD M b ρ t1 P)) : JD M (.IfExp c a b pos) ρ t P := jd_of (pe_ifExp ptT peT peT) fun σ G H S Q q =>
  h σ G H S _ fun G1 H1 k t1 s1 ⟨h1, h2⟩ => by
    cases k with
    | true => exact iteT (h1 rfl σ G1 H1 (S.step s1) _ fun G2 H2 u z t2 s2 d2 p => q G2 H2 u z t2 (s1.trans s2) d2 p)
    | false => exact iteF (h2 rfl σ G1 H1 (S.step s1) _ fun G2 H2 u z t2 s2 d2 p => q G2 H2 u z t2 (s1.trans s2) d2 p)
theorem jd_neg (h : JD M a ρ t fun x t1 => ∃ i, x = .int i ∧ P (.int (-i)) t1) : JD M (.UnaryOp .USub a pos) ρ t P := jd_of (pe_un un_neg peT) fun σ G H S Q q =>
  h σ G H S _ fun G1 H1 v x t1 s1 d1 ⟨k, e, p⟩ => by
    subst e
    exact ⟨k, d1.intE, q G1 H1 _ _ t1 s1 (.int _) p⟩
/-- a <= b <= c over ints -/
theorem jd_chain {op op' : CmpOp} {g g' : Int → Int → Bool} (ho : OpR X (compareOp op) (rI0 fun i j => .bl (g i j))) (ho' : OpR X (compareOp op') (rI0 fun i j => .bl (g' i j)))
    (h : JD M a ρ t fun x t1 => ∃ i, x = .int i ∧ JD M b ρ t1 fun y t2 => ∃ j, y = .int j ∧ (g i j = false → P (.bool false) t2) ∧ (g i j = true → JD M c ρ t2 fun z t3 => ∃ k, z = .int k ∧ P (.bool (g' j k)) t3)) (hm : lastMarks [op, op'] [b, c] = false := by rfl) : JD M (.Compare a [op, op'] [b, c] pos) ρ t P :=
  jd_of (pe_chain ho ho' peT peT peT hm) fun σ G H S Q q => h σ G H S _ fun G1 H1 v x t1 s1 d1 ⟨i, e1, h1⟩ => h1 σ G1 H1 (S.step s1) _ fun G2 H2 w y t2 s2 d2 ⟨j, e2, hf, ht⟩ => by
    subst e1 e2
    refine ⟨i, j, d1.intE, d2.intE, g i j, rfl, ?_⟩
    cases hg : g i j with
    | true =>
      refine iteT (ht hg σ G2 H2 ((S.step s1).step s2) _ fun G3 H3 u z t3 s3 d3 ⟨k, e3, p⟩ => ?_)
      subst e3
      exact ⟨j, k, d2.intE, d3.intE, q G3 H3 _ _ t3 ((s1.trans s2).trans s3) (.bl _) p⟩
    | false => exact iteF (q G2 H2 _ _ t2 (s1.trans s2) (.bl _) (hf hg))
theorem jt_chain {P : Bool → Rs → Prop} {op op' : CmpOp} {g g' : Int → Int → Bool} (ho : OpR X (compareOp op) (rI0 fun i j => .bl (g i j))) (ho' : OpR X (compareOp op') (rI0 fun i j => .bl (g' i j)))
    (h : JD M a ρ t fun x t1 => ∃ i, x = .int i ∧ JD M b ρ t1 fun y t2 => ∃ j, y = .int j ∧ (g i j = false → P false t2) ∧ (g i j = true → JD M c ρ t2 fun z t3 => ∃ k, z = .int k ∧ P (g' j k) t3)) (hm : lastMarks [op, op'] [b, c] = false := by rfl) : JT M (.Compare a [op, op'] [b, c] pos) ρ t P :=
  jt_of (pt_chain ho ho' peT peT peT hm) fun σ G H S Q q => h σ G H S _ fun G1 H1 v x t1 s1 d1 ⟨i, e1, h1⟩ => h1 σ G1 H1 (S.step s1) _ fun G2 H2 w y t2 s2 d2 ⟨j, e2, hf, ht⟩ => by
    subst e1 e2
    refine ⟨i, j, d1.intE, d2.intE, g i j, rfl, ?_⟩
    cases hg : g i j with
    | true =>
      refine iteT (ht hg σ G2 H2 ((S.step s1).step s2) _ fun G3 H3 u z t3 s3 d3 ⟨k, e3, p⟩ => ?_)
      subst e3
      exact ⟨j, k, d2.intE, d3.intE, _, rfl, q G3 H3 _ t3 ((s1.trans s2).trans s3) p⟩
    | false => exact iteF ⟨_, rfl, q G2 H2 _ t2 (s1.trans s2) (hf hg)⟩
/-- over texts -/
theorem jd_chainS {op op' : CmpOp} {g g' : Str → Str → Bool} {r r' : R2} (ho : OpR X (compareOp op) r) (ho' : OpR X (compareOp op') r') (hr : ∀ i j H (Q : VK), Q (.bl (g i j)) H → r (.str i) (.str j) H Q) (hr' : ∀ i j H (Q : VK), Q (.bl (g' i j)) H → r' (.str i) (.str j) H Q)
    (h : JD M a ρ t fun x t1 => ∃ i, x = .str i ∧ JD M b ρ t1 fun y t2 => ∃ j, y = .str j ∧ (g i j = false → P (.bool false) t2) ∧ (g i j = true → JD M c ρ t2 fun z t3 => ∃ k, z = .str k ∧ P (.bool (g' j k)) t3))
    (hm : lastMarks [op, op'] [b, c] = false := by rfl) : JD M (.Compare a [op, op'] [b, c] pos) ρ t P :=
  jd_of (pe_chain ho ho' peT peT peT hm) fun σ G H S Q q => h σ G H S _ fun G1 H1 v x t1 s1 d1 ⟨i, e1, h1⟩ => h1 σ G1 H1 (S.step s1) _ fun G2 H2 w y t2 s2 d2 ⟨j, e2, hf, ht⟩ => by
    subst e1 e2
    rw [d1.strE, d2.strE]
    refine hr i j _ _ ⟨g i j, rfl, ?_⟩
    cases hg : g i j with
    | true =>
      refine iteT (ht hg σ G2 H2 ((S.step s1).step s2) _ fun G3 H3 u z t3 s3 d3 ⟨k, e3, p⟩ => ?_)
      subst e3
      rw [d3.strE]
      exact hr' j k _ _ (q G3 H3 _ _ t3 ((s1.trans s2).trans s3) (.bl _) p)
    | false => exact iteF (q G2 H2 _ _ t2 (s1.trans s2) (.bl _) (hf hg))
end

/-! ### defs -/
/-- what a def promises: of n arguments -/
def spD (K : KK) (Wo : WO) (n : Nat) (S : List B → Rs → (B → Rs → Prop) → Prop) : Sp := fun vs H Q _ => ∃ (M : Md K Wo) (G : Hp) (bs : List B) (t : Rs) (P : B → Rs → Prop), Ok M t G H ∧ ArgAll M G vs bs ∧ bs.length = n ∧ S bs t P ∧
  (∀ (G' H' : Hp) (v : V) (x : PyData) (t' : Rs), Stp M t' G H G' H' → De K G' v x → P (.d x) t' → Q v H') ∧
  (∀ (G' H' : Hp) (l : Addr) (ws : List V) (xs : List PyData) (t' : Rs), Stp M t' G H G' H' → H l = none → G' l = none → H' l = some (.lst ws) → DeAll K G' ws xs → P (.own xs) t' → Q (.ref l) H')
/-- the def that stands at the name x, its promise, by at most level k -/
structure Def (P : Program) (w : World) (K : PySem.W.Frag) (Wo : WO) (mg : Str → Option Value) (base : Heap) (k : Nat) (x : Str) (n : Nat) (S : List B → Rs → (B → Rs → Prop) → Prop) : Prop where
  ex : ∃ (f : Addr) (fd : FuncData) (ps : List Str), FnOk P w K mg base CX0 k f fd ps (spD (kkOf P w K) Wo n S) ∧ mg x = some (.ref f) ∧ PySem.W.keepIn K (.ref f) = true ∧ Binds K fd ps []
section
variable {X : Cx} {Wo : WO} {M : Md X.KK Wo} {ρ : List B} {t : Rs} {e : Expr} {es : List Expr} {p pos : Pos} {x : Str} {k j n : Nat} {S : List B → Rs → (B → Rs → Prop) → Prop}
theorem jd_call {P : PyData → Rs → Prop} (D : Def X.prog X.w X.K Wo X.mg X.base k x n S) (hr : Room j X.A) (hk : k ≤ j) (hg : Gl X x) (h : JA M (e :: es) ρ t fun bs t1 => bs.length = n ∧ S bs t1 fun b t2 => ∃ y, b = .d y ∧ P y t2)
    (h2 : (x == ("__debug__" : Str)) = false := by decide) (h3 : starEach (e :: es) X.env = (false, eval e X.env) :: starEach es X.env := by rfl)
    (h4 : (backTo pos (starEach es X.env)).any (·.1) = false := by rfl) : JD M (.Call (.Name x p) (e :: es) [] pos) ρ t P := by
  obtain ⟨f, fd, ps, F, hm, kp, hb⟩ := D.ex
  refine jd_of (pe_call F (hr.mono hk) hg hm kp hb .nil pass0 paT h2 h3 h4) fun σ G H S Q q => h σ G H S _ fun G1 H1 vs bs t1 s1 a1 ⟨hl, sp⟩ => ?_
  show spD X.KK Wo n _ (vs ++ []) H1 Q E0
  rw [List.append_nil]
  refine ⟨M, G1, bs, t1, _, (S.step s1).ok, a1, hl, sp, fun G2 H2 v z t2 s2 d2 ⟨y, ey, py⟩ => ?_, fun G2 H2 l ws xs t2 s2 n g e a ⟨y, ey, py⟩ => (by cases ey)⟩
  cases ey
  exact q G2 H2 v z t2 (s1.trans s2) d2 py
theorem jl_call {P : List PyData → Rs → Prop} (D : Def X.prog X.w X.K Wo X.mg X.base k x n S) (hr : Room j X.A) (hk : k ≤ j) (hg : Gl X x) (h : JA M (e :: es) ρ t fun bs t1 => bs.length = n ∧ S bs t1 fun b t2 => ∃ y, b = .own y ∧ P y t2)
    (h2 : (x == ("__debug__" : Str)) = false := by decide) (h3 : starEach (e :: es) X.env = (false, eval e X.env) :: starEach es X.env := by rfl)
    (h4 : (backTo pos (starEach es X.env)).any (·.1) = false := by rfl) : JL M (.Call (.Name x p) (e :: es) [] pos) ρ t P := by
  obtain ⟨f, fd, ps, F, hm, kp, hb⟩ := D.ex
  refine jl_of (pe_call F (hr.mono hk) hg hm kp hb .nil pass0 paT h2 h3 h4) fun σ G H S Q q => h σ G H S _ fun G1 H1 vs bs t1 s1 a1 ⟨hl, sp⟩ => ?_
  show spD X.KK Wo n _ (vs ++ []) H1 Q E0
  rw [List.append_nil]
  refine ⟨M, G1, bs, t1, _, (S.step s1).ok, a1, hl, sp, fun G2 H2 v z t2 s2 d2 ⟨y, ey, py⟩ => (by cases ey), fun G2 H2 l ws xs t2 s2 n g e a ⟨y, ey, py⟩ => ?_⟩
  cases ey
  exact q G2 H2 l ws _ t2 (s1.trans s2) (fresh_of s1 n) g e a py
/-- a def without arguments -/
theorem jl_call0 {P : List PyData → Rs → Prop} (D : Def X.prog X.w X.K Wo X.mg X.base k x 0 S) (hr : Room j X.A) (hk : k ≤ j) (hg : Gl X x) (h : S [] t fun b t2 => ∃ y, b = .own y ∧ P y t2)
    (h2 : (x == ("__debug__" : Str)) = false := by decide) : JL M (.Call (.Name x p) [] [] pos) ρ t P := by
  obtain ⟨f, fd, ps, F, hm, kp, hb⟩ := D.ex
  refine jl_of (pe_call0 F (hr.mono hk) hg hm kp hb .nil pass0 h2) fun σ G H S Q q => ?_
  show spD X.KK Wo 0 _ ([] ++ []) H Q E0
  refine ⟨M, G, [], t, _, S.ok, .nil, rfl, h, fun G2 H2 v z t2 s2 d2 ⟨y, ey, py⟩ => (by cases ey), fun G2 H2 l ws xs t2 s2 n g e a ⟨y, ey, py⟩ => ?_⟩
  cases ey
  exact q G2 H2 l ws _ t2 s2 n g e a py
end
end Dl
end
section
set_option maxRecDepth 100000
set_option maxHeartbeats 4000000
namespace Dl
open PySem PySem.Spec PyProof.Rows L2

/-! ### statements -/
structure Dk where
  nx : List B → Rs → Prop
  rt : B → Rs → Prop
  bk : List B → Rs → Prop := fun _ _ => False
  ct : List B → Rs → Prop := fun _ _ => False
section
variable {K : KK}
structure Fit {Wo : WO} (M : Md K Wo) (G1 : Hp) (D : Dk) (E : Ends) : Prop where
  nx : ∀ (σ : L2.St) (G H : Hp) (ρ : List B) (t : Rs), Sat M t G H σ ρ → Same G1 G → D.nx ρ t → E.nx σ H
  bk : ∀ (σ : L2.St) (G H : Hp) (ρ : List B) (t : Rs), Sat M t G H σ ρ → Same G1 G → D.bk ρ t → E.bk σ H
  ct : ∀ (σ : L2.St) (G H : Hp) (ρ : List B) (t : Rs), Sat M t G H σ ρ → Same G1 G → D.ct ρ t → E.ct σ H
  rt : ∀ (G H : Hp) (t : Rs) (v : V) (x : PyData), Stp M t M.G0 M.H0 G H → De K G v x → D.rt (.d x) t → E.rt v H
  rtL : ∀ (G H : Hp) (t : Rs) (l : Addr) (ws : List V) (xs : List PyData), Stp M t M.G0 M.H0 G H → M.H0 l = none → G l = none → H l = some (.lst ws) → DeAll K G ws xs → D.rt (.own xs) t → E.rt (.ref l) H
def DS {Wo : WO} (M : Md K Wo) (ts : TS) (ρ : List B) (t : Rs) (D : Dk) : Prop := ∀ (σ : L2.St) (G H : Hp), Sat M t G H σ ρ → ∀ E : Ends, Fit M G D E → ts E σ H
theorem Fit.mono {Wo : WO} {M : Md K Wo} {G G' : Hp} {D : Dk} {E : Ends} (F : Fit M G D E) (e : Same G G') : Fit M G' D E :=
  ⟨fun σ G2 H ρ t S s d => F.nx σ G2 H ρ t S (e.trans s) d, fun σ G2 H ρ t S s d => F.bk σ G2 H ρ t S (e.trans s) d, fun σ G2 H ρ t S s d => F.ct σ G2 H ρ t S (e.trans s) d, F.rt, F.rtL⟩
/-- a target takes data -/
def DG {Wo : WO} (M : Md K Wo) (g : TG) (x : PyData) (ρ : List B) (Q : List B → Prop) : Prop := ∀ (t : Rs) (G H : Hp) (σ : L2.St) (v : V), Sat M t G H σ ρ → De K G v x → ∀ R : L2.St → Hp → Prop, (∀ (σ' : L2.St) (ρ' : List B), Sat M t G H σ' ρ' → Q ρ' → R σ' H) → g v σ H R
end
section
variable {X : Cx} {Wo : WO} (M : Md X.KK Wo)
abbrev JS (st : Stmt) (ρ : List B) (t : Rs) (D : Dk) : Prop := DS M (TsOf X st) ρ t D
abbrev JSs (st : List Stmt) (ρ : List B) (t : Rs) (D : Dk) : Prop := DS M (TssOf X st) ρ t D
end
section
variable {K : KK} {Wo : WO} {M : Md K Wo} {t : Rs} {G H : Hp} {σ : L2.St} {ρ : List B}
theorem Sat.set {i : Nat} {v : V} {x : PyData} (S : Sat M t G H σ ρ) (d : De K G v x) : Sat M t G H (σ.set i (some v)) (ρ.set i (.d x)) where
  st := S.st
  ok := S.ok
  len := by rw [List.length_set, List.length_set, S.len]
  at_ := fun j b e => by
    by_cases hj : i = j
    · subst hj
      by_cases hl : i < ρ.length
      · rw [List.getElem?_set_self hl] at e
        cases e
        exact ⟨v, List.getElem?_set_self (by rw [S.len]; exact hl), d⟩
      · rw [List.getElem?_eq_none (by rw [List.length_set]; omega)] at e
        cases e
    · rw [List.getElem?_set_ne hj] at e ⊢
      exact S.at_ j b e
  dis := fun a b xs ys l n e1 e2 e3 e4 => by
    by_cases ha : i = a
    · subst ha
      by_cases hl : i < ρ.length
      · rw [List.getElem?_set_self hl] at e1
        cases e1
      · rw [List.getElem?_eq_none (by rw [List.length_set]; omega)] at e1
        cases e1
    · by_cases hb : i = b
      · subst hb
        by_cases hl : i < ρ.length
        · rw [List.getElem?_set_self hl] at e2
          cases e2
        · rw [List.getElem?_eq_none (by rw [List.length_set]; omega)] at e2
          cases e2
      · rw [List.getElem?_set_ne ha] at e1 e3
        rw [List.getElem?_set_ne hb] at e2 e4
        exact S.dis a b xs ys l n e1 e2 e3 e4
/-- a slot gets a new list of its own -/
theorem Sat.setL {i : Nat} {l : Addr} {ws : List V} {xs : List PyData} (S : Sat M t G H σ ρ) (n : l ≠ M.r) (g : G l = none) (h : H l = some (.lst ws)) (h0 : M.H0 l = none) (d : DeAll K G ws xs) (fresh : ∀ (j : Nat) (ys : List PyData), j ≠ i → ρ[j]? = some (.own ys) → σ[j]? ≠ some (some (.ref l))) :
    Sat M t G H (σ.set i (some (.ref l))) (ρ.set i (.own xs)) where
  st := S.st
  ok := S.ok
  len := by rw [List.length_set, List.length_set, S.len]
  at_ := fun j b e => by
    by_cases hj : i = j
    · subst hj
      by_cases hl : i < ρ.length
      · rw [List.getElem?_set_self hl] at e
        cases e
        exact ⟨l, ws, List.getElem?_set_self (by rw [S.len]; exact hl), n, g, h, h0, d⟩
      · rw [List.getElem?_eq_none (by rw [List.length_set]; omega)] at e
        cases e
    · rw [List.getElem?_set_ne hj] at e ⊢
      exact S.at_ j b e
  dis := fun a b ys zs k ne e1 e2 e3 e4 => by
    by_cases ha : i = a
    · subst ha
      rw [List.getElem?_set_ne ne] at e2 e4
      have hl : i < σ.length := by
        by_cases q : i < σ.length
        · exact q
        · rw [List.getElem?_eq_none (by rw [List.length_set]; omega)] at e3
          cases e3
      rw [List.getElem?_set_self hl] at e3
      cases e3
      exact fresh b zs (Ne.symm ne) e2 e4
    · rw [List.getElem?_set_ne ha] at e1 e3
      by_cases hb : i = b
      · subst hb
        have hl : i < σ.length := by
          by_cases q : i < σ.length
          · exact q
          · rw [List.getElem?_eq_none (by rw [List.length_set]; omega)] at e4
            cases e4
        rw [List.getElem?_set_self hl] at e4
        cases e4
        exact fresh a ys (fun z => ha z.symm) e1 e3
      · rw [List.getElem?_set_ne hb] at e2 e4
        exact S.dis a b ys zs k ne e1 e2 e3 e4
/-- a slot takes an object that stays as it is -/
theorem Sat.setI {i : Nat} {l : Addr} {o : HO} {m : Im} (S : Sat M t G H σ ρ) (h : G l = some o) (r : m.R l G o) : Sat M t G H (σ.set i (some (.ref l))) (ρ.set i (.im m)) where
  st := S.st
  ok := S.ok
  len := by rw [List.length_set, List.length_set, S.len]
  at_ := fun j b e => by
    by_cases hj : i = j
    · subst hj
      by_cases hl : i < ρ.length
      · rw [List.getElem?_set_self hl] at e
        cases e
        exact ⟨l, o, List.getElem?_set_self (by rw [S.len]; exact hl), h, r⟩
      · rw [List.getElem?_eq_none (by rw [List.length_set]; omega)] at e
        cases e
    · rw [List.getElem?_set_ne hj] at e ⊢
      exact S.at_ j b e
  dis := fun a b xs ys l n e1 e2 e3 e4 => by
    by_cases ha : i = a
    · subst ha
      by_cases hl : i < ρ.length
      · rw [List.getElem?_set_self hl] at e1
        cases e1
      · rw [List.getElem?_eq_none (by rw [List.length_set]; omega)] at e1
        cases e1
    · by_cases hb : i = b
      · subst hb
        by_cases hl : i < ρ.length
        · rw [List.getElem?_set_self hl] at e2
          cases e2
        · rw [List.getElem?_eq_none (by rw [List.length_set]; omega)] at e2
          cases e2
      · rw [List.getElem?_set_ne ha] at e1 e3
        rw [List.getElem?_set_ne hb] at e2 e4
        exact S.dis a b xs ys l n e1 e2 e3 e4
/-- a list that nobody held ahead -/
theorem Sat.fresh {l : Addr} (S : Sat M t G H σ ρ) (n : H l = none) {j : Nat} {ys : List PyData} (e : ρ[j]? = some (.own ys)) : σ[j]? ≠ some (some (.ref l)) := fun z => by
  obtain ⟨l', vs, e1, _, _, h, _⟩ := S.at_ j _ e
  rw [z] at e1
  cases e1
  rw [n] at h
  cases h
/-- less is known -/
theorem Sat.un {i : Nat} (S : Sat M t G H σ ρ) {u : Option V} : Sat M t G H (σ.set i u) (ρ.set i .un) where
  st := S.st
  ok := S.ok
  len := by rw [List.length_set, List.length_set, S.len]
  at_ := fun j b e => by
    by_cases hj : i = j
    · subst hj
      by_cases hl : i < ρ.length
      · rw [List.getElem?_set_self hl] at e
        cases e
        trivial
      · rw [List.getElem?_eq_none (by rw [List.length_set]; omega)] at e
        cases e
    · rw [List.getElem?_set_ne hj] at e ⊢
      exact S.at_ j b e
  dis := fun a b xs ys l n e1 e2 e3 e4 => by
    by_cases ha : i = a
    · subst ha
      by_cases hl : i < ρ.length
      · rw [List.getElem?_set_self hl] at e1
        cases e1
      · rw [List.getElem?_eq_none (by rw [List.length_set]; omega)] at e1
        cases e1
    · by_cases hb : i = b
      · subst hb
        by_cases hl : i < ρ.length
        · rw [List.getElem?_set_self hl] at e2
          cases e2
        · rw [List.getElem?_eq_none (by rw [List.length_set]; omega)] at e2
          cases e2
      · rw [List.getElem?_set_ne ha] at e1 e3
        rw [List.getElem?_set_ne hb] at e2 e4
        exact S.dis a b xs ys l n e1 e2 e3 e4
/-- the list of a slot becomes data -/
theorem Sat.freeze {i : Nat} {xs : List PyData} (S : Sat M t G H σ ρ) (e : ρ[i]? = some (.own xs)) : ∃ (l : Addr) (ws : List V), σ[i]? = some (some (.ref l)) ∧ H l = some (.lst ws) ∧ Same G (upd G l (.lst ws)) ∧ De K (upd G l (.lst ws)) (.ref l) (.list xs) ∧ Sat M t (upd G l (.lst ws)) H σ (ρ.set i (.d (.list xs))) := by
  obtain ⟨l, ws, e1, n, g, h, h0, d⟩ := S.at_ i _ e
  have up : Same G (upd G l (.lst ws)) := fun b u z => by
    rw [upd_ne (ne_of_none z g)]
    exact z
  have de : De K (upd G l (.lst ws)) (.ref l) (.list xs) := .lst upd_same (DeAll.up up _ _ d)
  refine ⟨l, ws, e1, h, up, de, ?_⟩
  refine ⟨S.st.freeze h0 g h, ⟨fun b u z => ?_, ?_, ?_, (S.st.freeze h0 g h).tb⟩, by rw [List.length_set]; exact S.len, fun j b e2 => ?_, fun a b ys zs k ne e2 e3 e4 e5 => ?_⟩
  · by_cases hb : b = l
    · subst hb
      rw [upd_same] at z
      rw [h]
      exact z
    · rw [upd_ne hb] at z
      exact S.ok.sub b u z
  · rw [upd_ne (Ne.symm n)]
    exact S.ok.gr
  · obtain ⟨o, q, w⟩ := S.ok.rd
    exact ⟨o, q, M.up up w⟩
  · by_cases hj : i = j
    · subst hj
      rw [List.getElem?_set_self (by
        by_cases q : i < ρ.length
        · exact q
        · rw [List.getElem?_eq_none (by omega)] at e
          cases e)] at e2
      cases e2
      exact ⟨.ref l, e1, de⟩
    · rw [List.getElem?_set_ne hj] at e2
      have s := S.at_ j b e2
      cases b with
      | un => trivial
      | rd => exact s
      | fx f => exact s
      | d x =>
        obtain ⟨v, e3, h3⟩ := s
        exact ⟨v, e3, De.up up x v h3⟩
      | own ys =>
        obtain ⟨l2, vs, e3, n2, g2, h2, h02, d2⟩ := s
        refine ⟨l2, vs, e3, n2, ?_, h2, h02, DeAll.up up _ _ d2⟩
        have : l2 ≠ l := fun z => by
          subst z
          exact S.dis i j xs ys l2 hj e e2 e1 e3
        rw [upd_ne this]
        exact g2
      | im m =>
        obtain ⟨l2, o, e3, h2, r⟩ := s
        exact ⟨l2, o, e3, up _ _ h2, m.up up r⟩
      | new a2 C2 fs2 =>
        obtain ⟨dx, vs, e3, n2, g2, h2, h02, d2⟩ := s
        refine ⟨dx, vs, e3, n2, ?_, h2, h02, DeF.up0 up d2⟩
        have : a2 ≠ l := fun z => by
          subst z
          rw [h] at h2
          cases h2
        rw [upd_ne this]
        exact g2
  · by_cases ha : i = a
    · subst ha
      rw [List.getElem?_set_self (by
        by_cases q : i < ρ.length
        · exact q
        · rw [List.getElem?_eq_none (by omega)] at e
          cases e)] at e2
      cases e2
    · by_cases hb : i = b
      · subst hb
        rw [List.getElem?_set_self (by
          by_cases q : i < ρ.length
          · exact q
          · rw [List.getElem?_eq_none (by omega)] at e
            cases e)] at e3
        cases e3
      · rw [List.getElem?_set_ne ha] at e2
        rw [List.getElem?_set_ne hb] at e3
        exact S.dis a b ys zs k ne e2 e3 e4 e5
/-- the list of a slot is changed in place -/
theorem Sat.write {i : Nat} {xs ys : List PyData} {l : Addr} {ws : List V} (S : Sat M t G H σ ρ) (e : ρ[i]? = some (.own xs)) (e1 : σ[i]? = some (some (.ref l))) (d : DeAll K G ws ys) : Sat M t G (upd H l (.lst ws)) σ (ρ.set i (.own ys)) := by
  obtain ⟨l', vs, e1', n, g, h, h0, _⟩ := S.at_ i _ e
  rw [e1] at e1'
  cases e1'
  have hi : i < ρ.length := by
    by_cases q : i < ρ.length
    · exact q
    · rw [List.getElem?_eq_none (by omega)] at e
      cases e
  have sub : Same G (upd H l (.lst ws)) := fun b u z => by
    rw [upd_ne (ne_of_none z g)]
    exact S.ok.sub b u z
  have rd : ∃ o, (upd H l (.lst ws)) M.r = some o ∧ Wo t G o := by
    obtain ⟨o, q, w⟩ := S.ok.rd
    refine ⟨o, ?_, w⟩
    rw [upd_ne (Ne.symm n)]
    exact q
  have tb := And.intro (tabs_upd (l := l) (o := .lst ws) S.ok.tb.1 (.inr (.inl ⟨_, h⟩))) S.ok.tb.2
  refine ⟨⟨S.st.gg, fun b u nb nt z => ?_, fun b e => (by
    by_cases hb : b = l
    · rw [hb, upd_same]; simp
    · rw [upd_ne hb]; exact S.st.al b e), S.st.fr, sub, rd, tb⟩, ⟨sub, S.ok.gr, rd, tb⟩, by rw [List.length_set]; exact S.len, fun j b e2 => ?_, fun a b ps qs k ne e2 e3 e4 e5 => ?_⟩
  · rw [upd_ne (ne_of_none z h0)]
    exact S.st.hh b u nb nt z
  · by_cases hj : i = j
    · subst hj
      rw [List.getElem?_set_self hi] at e2
      cases e2
      exact ⟨l, ws, e1, n, g, upd_same, h0, d⟩
    · rw [List.getElem?_set_ne hj] at e2
      have s := S.at_ j b e2
      cases b with
      | un => trivial
      | rd => exact s
      | fx f => exact s
      | d x => exact s
      | own zs =>
        obtain ⟨l2, us, e3, n2, g2, h2, h02, d2⟩ := s
        refine ⟨l2, us, e3, n2, g2, ?_, h02, d2⟩
        have : l2 ≠ l := fun z => by
          subst z
          exact S.dis i j xs zs l2 hj e e2 e1 e3
        rw [upd_ne this]
        exact h2
      | im m => exact s
      | new a2 C2 fs2 =>
        obtain ⟨dx, us, e3, n2, g2, h2, h02, d2⟩ := s
        refine ⟨dx, us, e3, n2, g2, ?_, h02, d2⟩
        have : a2 ≠ l := fun z => by
          subst z
          rw [h] at h2
          cases h2
        rw [upd_ne this]
        exact h2
  · have own : ∀ (c : Nat) (zs : List PyData), (ρ.set i (.own ys))[c]? = some (.own zs) → ∃ zs', ρ[c]? = some (.own zs') := fun c zs z => by
      by_cases hc : i = c
      · subst hc
        exact ⟨_, e⟩
      · rw [List.getElem?_set_ne hc] at z
        exact ⟨_, z⟩
    obtain ⟨ps', q1⟩ := own a ps e2
    obtain ⟨qs', q2⟩ := own b qs e3
    exact S.dis a b ps' qs' k ne q1 q2 e4 e5
theorem Sat.ne_r (S : Sat M t G H σ ρ) {l : Addr} (n : H l = none) : l ≠ M.r := fun z => by
  obtain ⟨o, q, _⟩ := S.ok.rd
  rw [z, q] at n
  cases n
theorem DS.imp {ts : TS} {D D' : Dk} (h : DS M ts ρ t D) (i1 : ∀ ρ t, D.nx ρ t → D'.nx ρ t) (i2 : ∀ b t, D.rt b t → D'.rt b t) (i3 : ∀ ρ t, D.bk ρ t → D'.bk ρ t) (i4 : ∀ ρ t, D.ct ρ t → D'.ct ρ t) : DS M ts ρ t D' := fun σ G H S E F =>
  h σ G H S E ⟨fun σ G H ρ t s m d => F.nx σ G H ρ t s m (i1 _ _ d), fun σ G H ρ t s m d => F.bk σ G H ρ t s m (i3 _ _ d), fun σ G H ρ t s m d => F.ct σ G H ρ t s m (i4 _ _ d), fun G H t v x s e d => F.rt G H t v x s e (i2 _ _ d), fun G H t l ws xs s a b c e d => F.rtL G H t l ws xs s a b c e (i2 _ _ d)⟩
end

section
variable {X : Cx} {Wo : WO} {M : Md X.KK Wo} {ρ : List B} {t : Rs} {D : Dk} {st : Stmt} {rest : List Stmt} {e c : Expr} {es : List Expr} {pos : Pos}
theorem js_of {ts : TS} (h : PS X st ts) (d : DS M ts ρ t D) : JS M st ρ t D := fun σ G H S E F => TsOf.of h (d σ G H S E F)
theorem jss_nil (h : D.nx ρ t) : JSs M [] ρ t D := fun σ G H S E F => TssOf.of pss_nil (F.nx σ G H ρ t S (Same.refl _) h)
theorem jss_cons (h : JS M st ρ t { D with nx := fun ρ' t' => JSs M rest ρ' t' D }) : JSs M (st :: rest) ρ t D := fun σ G H S E F => TssOf.of (pss_cons psT pssT) (h σ G H S { E with nx := fun σ' H' => TssOf X rest E σ' H' } ⟨fun σ' G' H' ρ' t' S' m h' => h' σ' G' H' S' E (F.mono m), F.bk, F.ct, F.rt, F.rtL⟩)
theorem jss_one (h : JS M st ρ t D) : JSs M [st] ρ t D := fun σ G H S E F => TssOf.of (pss_one psT) (h σ G H S E F)
theorem js_if {a b : List Stmt} (h : JT M c ρ t fun k t1 => (k = true → JSs M a ρ t1 D) ∧ (k = false → JSs M b ρ t1 D)) : JS M (.If c a b pos) ρ t D := js_of (ps_if ptT pssT pssT) fun σ G H S E F => h σ G H S _ fun G1 H1 k t1 s1 ⟨h1, h2⟩ => by
  cases k with
  | true => exact iteT (h1 rfl σ G1 H1 (S.step s1) E (F.mono s1.gg))
  | false => exact iteF (h2 rfl σ G1 H1 (S.step s1) E (F.mono s1.gg))
theorem js_ret (h : JD M e ρ t fun x t1 => D.rt (.d x) t1) : JS M (.Return (some e) pos) ρ t D := js_of (ps_ret peT) fun σ G H S E F => h σ G H S _ fun G1 H1 v x t1 s1 d1 p => F.rt G1 H1 t1 v x (S.st.trans s1) d1 p
theorem js_retL (h : JL M e ρ t fun xs t1 => D.rt (.own xs) t1) : JS M (.Return (some e) pos) ρ t D := js_of (ps_ret peT) fun σ G H S E F => h σ G H S _ fun G1 H1 l ws xs t1 s1 n g e a p => F.rtL G1 H1 t1 l ws xs (S.st.trans s1) (fresh_of S.st n) g e a p
theorem js_retN (h : D.rt (.d .none) t) : JS M (.Return none pos) ρ t D := js_of ps_retN fun σ G H S E F => F.rt G H t .non .none S.st .non h
theorem js_expr (h : JD M e ρ t fun _ t1 => D.nx ρ t1) (hs : swapsWith e none pos.line X.env = pure false := by rfl) : JS M (.Expr e pos) ρ t D := js_of (ps_expr peT hs) fun σ G H S E F => h σ G H S _ fun G1 H1 v x t1 s1 d1 p => F.nx σ G1 H1 ρ t1 (S.step s1) s1.gg p
theorem js_cont (h : D.ct ρ t) : JS M (.Continue pos) ρ t D := js_of ps_continue fun σ G H S E F => F.ct σ G H ρ t S (Same.refl _) h
theorem js_break (h : D.bk ρ t) : JS M (.Break pos) ρ t D := js_of ps_break fun σ G H S E F => F.bk σ G H ρ t S (Same.refl _) h
theorem js_pass (h : D.nx ρ t) : JS M (.Pass pos) ρ t D := js_of ps_pass fun σ G H S E F => F.nx σ G H ρ t S (Same.refl _) h
theorem js_set (i : Nat) {x : Str} {pos' : Pos} (hN : X.N.Nodup) (h : JD M e ρ t fun y t1 => D.nx (ρ.set i (.d y)) t1) (hi : X.N[i]? = some x := by rfl) (hx : L2.Loc X.env.scope x := by exact Or.inl rfl) (hs : swapsWith e (some (.Name x pos')) pos.line X.env = pure false := by rfl)
    (hf : X.fn x = true ∨ X.env.scope.names.lookup x = some .local := by first | exact .inl rfl | exact .inr rfl) : JS M (.Assign [.Name x pos'] e pos) ρ t D := js_of (ps_set hN hi hx peT hs hf) fun σ G H S E F =>
  h σ G H S _ fun G1 H1 v y t1 s1 d1 p => F.nx _ G1 H1 _ t1 ((S.step s1).set d1) s1.gg p
theorem js_setL (i : Nat) {x : Str} {pos' : Pos} (hN : X.N.Nodup) (h : JL M e ρ t fun ys t1 => D.nx (ρ.set i (.own ys)) t1) (hi : X.N[i]? = some x := by rfl) (hx : L2.Loc X.env.scope x := by exact Or.inl rfl) (hs : swapsWith e (some (.Name x pos')) pos.line X.env = pure false := by rfl)
    (hf : X.fn x = true ∨ X.env.scope.names.lookup x = some .local := by first | exact .inl rfl | exact .inr rfl) : JS M (.Assign [.Name x pos'] e pos) ρ t D := js_of (ps_set hN hi hx peT hs hf) fun σ G H S E F =>
  h σ G H S _ fun G1 H1 l ws xs t1 s1 n g e1 a p => F.nx _ G1 H1 _ t1 ((S.step s1).setL (S.ne_r n) g e1 (fresh_of S.st n) a fun j ys _ z => S.fresh n z) s1.gg p
/-- a slot's list is data from here on -/
theorem jss_freeze (i : Nat) {st : List Stmt} {xs : List PyData} (e : ρ[i]? = some (.own xs)) (h : JSs M st (ρ.set i (.d (.list xs))) t D) : JSs M st ρ t D := fun σ G H S E F => by
  obtain ⟨l, ws, _, _, up, _, S'⟩ := S.freeze e
  exact h σ _ H S' E (F.mono up)
theorem js_freeze (i : Nat) {xs : List PyData} (e : ρ[i]? = some (.own xs)) (h : JS M st (ρ.set i (.d (.list xs))) t D) : JS M st ρ t D := fun σ G H S E F => by
  obtain ⟨l, ws, _, _, up, _, S'⟩ := S.freeze e
  exact h σ _ H S' E (F.mono up)
/-- the list of a slot is handed back -/
theorem js_retO (i : Nat) {x : Str} {p : Pos} {xs : List PyData} (hr : ρ[i]? = some (.own xs)) (h : D.rt (.own xs) t) (hN : X.N[i]? = some x := by rfl) (hv : Vis X.env.scope x := by first | exact Or.inl rfl | exact Or.inr (Or.inl rfl) | exact Or.inr (Or.inr rfl))
    (hd : (x == ("__debug__" : Str)) = false := by decide) (hcd : (x == ("__classdict__" : Str)) = false := by decide) : JS M (.Return (some (.Name x p)) pos) ρ t D := js_of (ps_ret (pv i hN hv hd hcd)) fun σ G H S E F => by
  obtain ⟨l, ws, e1, n, g, h1, h0, d⟩ := S.at_ i _ hr
  exact ⟨.ref l, e1, F.rtL G H t l ws xs S.st h0 g h1 d h⟩
/-! ### targets -/
theorem dg_name {K : KK} {Wo : WO} {M : Md K Wo} {i : Nat} {x : PyData} {ρ : List B} {Q : List B → Prop} (h : Q (ρ.set i (.d x))) : DG M (gName i) x ρ Q := fun t G H σ v S d R r => r _ _ (S.set d) h
theorem dg_two {K : KK} {Wo : WO} {M : Md K Wo} {i j : Nat} {x y : PyData} {ρ : List B} {Q : List B → Prop} (h : Q ((ρ.set i (.d x)).set j (.d y))) : DG M (gTup K 2 (gCons (gName i) (gCons (gName j) gNil))) (.tuple [x, y]) ρ Q := fun t G H σ v S d R r => by
  obtain ⟨a, vs, rfl, st, da⟩ := d.tupE
  cases da with
  | cons d1 da => cases da with
    | cons d2 da =>
      cases da
      exact ⟨a, _, rfl, sqt_up S.ok.sub st, rfl, _, _, rfl, _, _, rfl, rfl, r _ _ ((S.set d1).set d2) h⟩
theorem dg_three {K : KK} {Wo : WO} {M : Md K Wo} {i j k : Nat} {x y z : PyData} {ρ : List B} {Q : List B → Prop} (h : Q (((ρ.set i (.d x)).set j (.d y)).set k (.d z))) : DG M (gTup K 3 (gCons (gName i) (gCons (gName j) (gCons (gName k) gNil)))) (.tuple [x, y, z]) ρ Q := fun t G H σ v S d R r => by
  obtain ⟨a, vs, rfl, st, da⟩ := d.tupE
  cases da with
  | cons d1 da => cases da with
    | cons d2 da => cases da with
      | cons d3 da =>
        cases da
        exact ⟨a, _, rfl, sqt_up S.ok.sub st, rfl, _, _, rfl, _, _, rfl, _, _, rfl, rfl, r _ _ (((S.set d1).set d2).set d3) h⟩
theorem js_asg {tg : Expr} {g : TG} (hg : PG X tg g) (h : JD M e ρ t fun y t1 => DG M g y ρ fun ρ' => D.nx ρ' t1) (hs : swapsWithSole [tg] e pos.line X.env = pure false := by rfl) (hw : swappedStores [tg] e X.env = pure none := by rfl)
    (h1 : (assignEach [tg] X.env).map (·.2) = [assign tg X.env] := by rfl) : JS M (.Assign [tg] e pos) ρ t D := js_of (ps_asg peT hg hs hw h1) fun σ G H S E F =>
  h σ G H S _ fun G1 H1 v y t1 s1 d1 p => p t1 G1 H1 σ v (S.step s1) d1 _ fun σ' ρ' S' q => F.nx σ' G1 H1 ρ' t1 S' s1.gg q
/-- a, b = e1, e2 -/
theorem js_par (i j : Nat) {x y : Str} {a b : Expr} {px py pt pt2 : Pos} {kt k2 : Nat} (hc : X.calm = true) (hN : X.N.Nodup) (hij : i ≠ j) (hw : swappedStores [.Tuple [.Name x px, .Name y py] kt pt] (.Tuple [a, b] k2 pt2) X.env = pure (some [x, y]))
    (h : JA M [a, b] ρ t fun bs t1 => ∃ u v, bs = [.d u, .d v] ∧ D.nx ((ρ.set i (.d u)).set j (.d v)) t1)
    (hi : X.N[i]? = some x := by rfl) (hj : X.N[j]? = some y := by rfl) (hx : X.env.scope.names.lookup x = some .local := by rfl) (hy : X.env.scope.names.lookup y = some .local := by rfl)
    (hs : swapsWithSole [.Tuple [.Name x px, .Name y py] kt pt] (.Tuple [a, b] k2 pt2) pos.line X.env = pure false := by rfl) : JS M (.Assign [.Tuple [.Name x px, .Name y py] kt pt] (.Tuple [a, b] k2 pt2) pos) ρ t D :=
  js_of (ps_par hc hN hi hj hij hx hy paT hw hs) fun σ G H S E F => h σ G H S _ fun G1 H1 vs bs t1 s1 a1 ⟨u, v, e, p⟩ => by
    subst e
    cases a1 with
    | cons d1 r => cases r with
      | cons d2 r =>
        cases r
        cases d1 with
        | d d1 => cases d2 with
          | d d2 => exact ⟨_, _, rfl, F.nx _ G1 H1 _ t1 (((S.step s1).set d1).set d2) s1.gg p⟩
theorem js_par3 (i j k : Nat) {x y z : Str} {a b c : Expr} {px py pz pt pt2 : Pos} {kt k2 : Nat} (ps : ∀ {ta : TA}, PA X [a, b, c] ta → PS X st (tPar3 i j k ta))
    (h : JA M [a, b, c] ρ t fun bs t1 => ∃ u v w, bs = [.d u, .d v, .d w] ∧ D.nx (((ρ.set i (.d u)).set j (.d v)).set k (.d w)) t1) : JS M st ρ t D :=
  js_of (ps paT) fun σ G H S E F => h σ G H S _ fun G1 H1 vs bs t1 s1 a1 ⟨u, v, w, e, p⟩ => by
    subst e
    cases a1 with
    | cons d1 r => cases r with
      | cons d2 r => cases r with
        | cons d3 r =>
          cases r
          cases d1 with
          | d d1 => cases d2 with
            | d d2 => cases d3 with
              | d d3 => exact ⟨_, _, _, rfl, F.nx _ G1 H1 _ t1 ((((S.step s1).set d1).set d2).set d3) s1.gg p⟩
end
end Dl
end
section
set_option maxRecDepth 100000
set_option maxHeartbeats 4000000
namespace Dl
open PySem PySem.Spec PyProof.Rows L2

/-! ### what is walked -/
@[irreducible] def TiOf (X : Cx) (tg e : Expr) : TI := fun σ H R => ∀ (pins : List (Addr × Obj)) (s : Shared), Inv X pins σ H s →
  wpAny (model X.prog X.w) X.A (eval e X.env) (fun v s1 => wpAny (model X.prog X.w) X.A (pyIter v) (PIE X pins σ tg R) X.xe s1) X.xe s
theorem piT {X : Cx} {tg e : Expr} : PI X tg e (TiOf X tg e) := by unfold TiOf; exact ⟨fun pins s σ H R I h => h pins s I⟩
theorem TiOf.of {X : Cx} {tg e : Expr} {ti : TI} {σ : L2.St} {H : Hp} (h : PI X tg e ti) {R : It → Hp → Prop} (q : ti σ H R) : TiOf X tg e σ H R := by unfold TiOf; exact fun pins s I => h.run pins s σ H R I q
/-- the walk J gives the data xs, one after another, from the data heap G0 on -/
structure Wk {K : KK} {Wo : WO} (M : Md K Wo) (G0 : Hp) (J : It) (xs : List PyData) : Prop where
  stop : ∀ (i : Nat) (t : Rs) (G H : Hp), Same G0 G → Ok M t G H → xs.length ≤ i → J.stop i H
  go : ∀ (i : Nat) (t : Rs) (G H : Hp), Same G0 G → Ok M t G H → i < xs.length → J.go i H
  yld : ∀ (i : Nat) (t : Rs) (G H : Hp) (x : V) (H' : Hp), Same G0 G → Ok M t G H → J.yld i H x H' → i < xs.length → ∃ G' d, Stp M t G H G' H' ∧ xs[i]? = some d ∧ De K G' x d
def DI {K : KK} {Wo : WO} (M : Md K Wo) (ti : TI) (ρ : List B) (t : Rs) (P : List PyData → Rs → Prop) : Prop := ∀ (σ : L2.St) (G H : Hp), Sat M t G H σ ρ → ∀ R : It → Hp → Prop,
  (∀ (G' H' : Hp) (J : It) (xs : List PyData) (t' : Rs), Stp M t' G H G' H' → Wk M G' J xs → P xs t' → R J H') → ti σ H R
section
variable {X : Cx} {Wo : WO} (M : Md X.KK Wo)
abbrev JI (tg e : Expr) (ρ : List B) (t : Rs) (P : List PyData → Rs → Prop) : Prop := DI M (TiOf X tg e) ρ t P
end
theorem wk_lst {K : KK} {Wo : WO} {M : Md K Wo} {G0 : Hp} {a : Addr} {vs : List V} {xs : List PyData} (h : G0 a = some (.lst vs)) (d : DeAll K G0 vs xs) : Wk M G0 (Itl K a) xs where
  stop := fun i t G H e k hi => ⟨vs, .inl (.inl (k.sub _ _ (e _ _ h))), by rw [d.length]; exact hi⟩
  go := fun i t G H e k hi => ⟨vs, vs[i]'(by rw [d.length]; exact hi), .inl (.inl (k.sub _ _ (e _ _ h))), List.getElem?_eq_getElem _⟩
  yld := fun i t G H x H' e k y hi => by
    obtain ⟨rfl, y⟩ := y
    have e1 := y vs (.inl (.inl (k.sub _ _ (e _ _ h))))
    obtain ⟨z, e2, d2⟩ := d.ofV e1
    exact ⟨G, z, k.refl, e2, De.up e _ _ d2⟩
theorem wk_tup {K : KK} {Wo : WO} {M : Md K Wo} {G0 : Hp} {a : Addr} {vs : List V} {xs : List PyData} (h : SqT K G0 a vs) (d : DeAll K G0 vs xs) : Wk M G0 (Itt K a) xs where
  stop := fun i t G H e k hi => ⟨vs, sqt_up (e.trans k.sub) h, by rw [d.length]; exact hi⟩
  go := fun i t G H e k hi => ⟨vs, vs[i]'(by rw [d.length]; exact hi), sqt_up (e.trans k.sub) h, List.getElem?_eq_getElem _⟩
  yld := fun i t G H x H' e k y hi => by
    obtain ⟨rfl, y⟩ := y
    have e1 := y vs (sqt_up (e.trans k.sub) h)
    obtain ⟨z, e2, d2⟩ := d.ofV e1
    exact ⟨G, z, k.refl, e2, De.up e _ _ d2⟩
/-- lo, lo + 1, .. -/
def rngD (lo : Int) (n : Nat) : List PyData := (List.range n).map fun i => .int (lo + (i : Nat))
theorem rngD_len (lo : Int) (n : Nat) : (rngD lo n).length = n := by simp [rngD]
theorem rngD_at {lo : Int} {n i : Nat} (h : i < n) : (rngD lo n)[i]? = some (.int (lo + (i : Nat))) := by simp [rngD, h]
theorem rngD_of {lo : Int} {n i : Nat} {x : PyData} (h : (rngD lo n)[i]? = some x) : i < n ∧ x = .int (lo + (i : Nat)) := by
  by_cases hi : i < n
  · rw [rngD_at hi] at h
    exact ⟨hi, (Option.some.inj h).symm⟩
  · rw [List.getElem?_eq_none (by rw [rngD_len]; omega)] at h
    cases h
theorem wk_rng {K : KK} {Wo : WO} {M : Md K Wo} {G0 : Hp} {lo : Int} {n : Nat} : Wk M G0 (Itr lo n) (rngD lo n) where
  stop := fun i t G H e k hi => by
    rw [rngD_len] at hi
    exact hi
  go := fun i t G H e k hi => by
    rw [rngD_len] at hi
    exact hi
  yld := fun i t G H x H' e k y hi => by
    obtain ⟨rfl, rfl⟩ := y
    rw [rngD_len] at hi
    exact ⟨G, _, k.refl, rngD_at hi, .int _⟩
def sgnD (x : Str) : List PyData := x.cps.toList.map fun c => .str ⟨#[c]⟩
theorem wk_str {K : KK} {Wo : WO} {M : Md K Wo} {G0 : Hp} {x : Str} : Wk M G0 (Its x) (sgnD x) where
  stop := fun i t G H e k hi => by
    simp only [sgnD, List.length_map, Array.length_toList] at hi
    exact hi
  go := fun i t G H e k hi => by
    simp only [sgnD, List.length_map, Array.length_toList] at hi
    exact hi
  yld := fun i t G H v H' e k y hi => by
    obtain ⟨rfl, c, ec, rfl⟩ := y
    refine ⟨G, .str ⟨#[c]⟩, k.refl, ?_, .str _⟩
    simp only [sgnD, List.getElem?_map, Array.getElem?_toList, ec]
    rfl
section
variable {X : Cx} {Wo : WO} {M : Md X.KK Wo} {ρ : List B} {t : Rs} {e a b tg : Expr} {P : List PyData → Rs → Prop} {pos p : Pos}
theorem ji_lst (h : JD M e ρ t fun x t1 => ∃ xs, x = .list xs ∧ P xs t1) : JI M tg e ρ t P := fun σ G H S R r => TiOf.of (pi_list peT) (h σ G H S _ fun G1 H1 v x t1 s1 d1 ⟨xs, e, p⟩ => by
  subst e
  obtain ⟨a, vs, rfl, st, da⟩ := d1.lstE
  exact ⟨a, rfl, ⟨vs, .inl (.inl ((S.step s1).ok.sub _ _ st))⟩, r G1 H1 _ xs t1 s1 (wk_lst st da) p⟩)
theorem ji_tup (h : JD M e ρ t fun x t1 => ∃ xs, x = .tuple xs ∧ P xs t1) : JI M tg e ρ t P := fun σ G H S R r => TiOf.of (pi_tup peT) (h σ G H S _ fun G1 H1 v x t1 s1 d1 ⟨xs, e, p⟩ => by
  subst e
  obtain ⟨a, vs, rfl, st, da⟩ := d1.tupE
  exact ⟨a, rfl, ⟨vs, sqt_up (S.step s1).ok.sub st⟩, r G1 H1 _ xs t1 s1 (wk_tup st da) p⟩)
theorem ji_str (h : JD M e ρ t fun x t1 => ∃ z, x = .str z ∧ P (sgnD z) t1) : JI M tg e ρ t P := fun σ G H S R r => TiOf.of (pi_str peT) (h σ G H S _ fun G1 H1 v x t1 s1 d1 ⟨z, e, p⟩ => by
  subst e
  exact ⟨z, d1.strE, r G1 H1 _ _ t1 s1 wk_str p⟩)
theorem ji_rng1 (hg : Gl X (Str.ofString "range")) (hm : X.mg (Str.ofString "range") = none) (h : JD M a ρ t fun x t1 => ∃ j : Int, x = .int j ∧ -(2 ^ 62) ≤ j ∧ j < 2 ^ 62 ∧ P (rngD 0 j.toNat) t1)
    (hs : starEach [a] X.env = [(false, eval a X.env)] := by rfl) : JI M tg (.Call (.Name (Str.ofString "range") p) [a] [] pos) ρ t P := fun σ G H S R r => TiOf.of (pi_range1 hg hm (pa_cons peT pa_nil hs) hs) (h σ G H S _ fun G1 H1 v x t1 s1 d1 ⟨j, e, h1, h2, q⟩ => by
  subst e
  refine ⟨j, ?_, h1, h2, r G1 H1 _ _ t1 s1 wk_rng q⟩
  rw [d1.intE])
theorem ji_rng2 (hg : Gl X (Str.ofString "range")) (hm : X.mg (Str.ofString "range") = none) (h : JD M a ρ t fun x t1 => ∃ i : Int, x = .int i ∧ JD M b ρ t1 fun y t2 => ∃ j : Int, y = .int j ∧ (-(2 ^ 62) ≤ i ∧ i < 2 ^ 62 ∧ -(2 ^ 62) ≤ j ∧ j < 2 ^ 62) ∧ P (rngD i (j - i).toNat) t2)
    (hs : starEach [a, b] X.env = [(false, eval a X.env), (false, eval b X.env)] := by rfl) (hs2 : starEach [b] X.env = [(false, eval b X.env)] := by rfl) : JI M tg (.Call (.Name (Str.ofString "range") p) [a, b] [] pos) ρ t P := fun σ G H S R r =>
  TiOf.of (pi_range2 hg hm (pa_cons peT (pa_cons peT pa_nil hs2) (by rw [hs, hs2])) hs hs2) (h σ G H S _ fun G1 H1 v x t1 s1 d1 ⟨i, e, h1⟩ => h1 σ G1 H1 (S.step s1) _ fun G2 H2 w y t2 s2 d2 ⟨j, e2, hb, q⟩ => by
    subst e e2
    refine ⟨i, j, ?_, hb, r G2 H2 _ _ t2 (s1.trans s2) wk_rng q⟩
    rw [d1.intE, d2.intE])

/-! ### for, while -/
theorem js_for {D : Dk} {body : List Stmt} {g : TG} (hp : PassesOwn (model X.prog X.w) X.A X.env X.xe) (hc : X.calm = true) (hg : PG X tg g)
    (h : JI M tg e ρ t fun xs t1 => ∃ Iv : Nat → List B → Rs → Prop, Iv 0 ρ t1 ∧
      (∀ (i : Nat) (x : PyData) (ρ' : List B) (t' : Rs), xs[i]? = some x → Iv i ρ' t' → DG M g x ρ' fun ρ2 => JSs M body ρ2 t' { D with nx := Iv (i + 1), ct := Iv (i + 1), bk := D.nx }) ∧
      (∀ (ρ' : List B) (t' : Rs), Iv xs.length ρ' t' → D.nx ρ' t'))
    (hs : ∀ x, foldedSetIterable e X.env x = pure x := by intro _; rfl) : JS M (.For tg e body [] pos) ρ t D := js_of (ps_for hp hc piT hg pssT hs) fun σ G H S E F => h σ G H S _ fun G1 H1 J xs t1 s1 wk ⟨Iv, h0, hst, hd⟩ => by
  refine ⟨fun i m σ' H' => m = xs.length - i ∧ i ≤ xs.length ∧ ∃ G' ρ' t', Sat M t' G' H' σ' ρ' ∧ Same G1 G' ∧ Iv i ρ' t', ⟨xs.length, rfl, Nat.zero_le _, G1, ρ, t1, S.step s1, Same.refl _, h0⟩, ?_⟩
  rintro i m σ' H' ⟨rfl, hi, G', ρ', t', S', sm, hI⟩
  by_cases hlt : i < xs.length
  · refine .inr ⟨wk.go i t' G' H' sm S'.ok hlt, fun σ2 H2 => ∃ G2 ρ2 t2, Sat M t2 G2 H2 σ2 ρ2 ∧ Same G1 G2 ∧ Iv (i + 1) ρ2 t2, fun σ2 H2 ⟨G2, ρ2, t2, a1, a2, a3⟩ => ⟨xs.length - (i + 1), by omega, rfl, hlt, G2, ρ2, t2, a1, a2, a3⟩, fun x H2 y => ?_⟩
    obtain ⟨G2, d, s2, e2, d2⟩ := wk.yld i t' G' H' x H2 sm S'.ok y hlt
    refine hst i d ρ' t' e2 hI t' G2 H2 σ' x (S'.step s2) d2 _ fun σ3 ρ3 S3 hb => ?_
    exact hb σ3 G2 H2 S3 _ ⟨fun σ4 G4 H4 ρ4 t4 S4 m q => ⟨G4, ρ4, t4, S4, (sm.trans s2.gg).trans m, q⟩, fun σ4 G4 H4 ρ4 t4 S4 m q => F.nx σ4 G4 H4 ρ4 t4 S4 (((s1.gg.trans sm).trans s2.gg).trans m) q,
      fun σ4 G4 H4 ρ4 t4 S4 m q => ⟨G4, ρ4, t4, S4, (sm.trans s2.gg).trans m, q⟩, F.rt, F.rtL⟩
  · have ei : i = xs.length := by omega
    subst ei
    exact .inl ⟨wk.stop _ t' G' H' sm S'.ok (Nat.le_refl _), F.nx σ' G' H' ρ' t' S' (s1.gg.trans sm) (hd ρ' t' hI)⟩
/-- while c: body; Iv by a number that falls -/
theorem js_while {D : Dk} {c : Expr} {body : List Stmt} (hp : PassesOwn (model X.prog X.w) X.A X.env X.xe) (Iv : Nat → List B → Rs → Prop) (m0 : Nat) (h0 : Iv m0 ρ t)
    (h : ∀ (m : Nat) (ρ' : List B) (t' : Rs), Iv m ρ' t' → JT M c ρ' t' fun k t1 => (k = true → JSs M body ρ' t1 { D with nx := fun ρ2 t2 => ∃ m', m' < m ∧ Iv m' ρ2 t2, ct := fun ρ2 t2 => ∃ m', m' < m ∧ Iv m' ρ2 t2, bk := D.nx }) ∧ (k = false → D.nx ρ' t1)) :
    JS M (.While c body [] pos) ρ t D := js_of (ps_while hp ptT pssT) fun σ G H S E F => by
  refine ⟨fun m σ' H' => ∃ G' ρ' t', Sat M t' G' H' σ' ρ' ∧ Same G G' ∧ Iv m ρ' t', ⟨m0, G, ρ, t, S, Same.refl _, h0⟩, ?_⟩
  rintro m σ' H' ⟨G', ρ', t', S', sm, hI⟩
  refine h m ρ' t' hI σ' G' H' S' _ fun G1 H1 k t1 s1 ⟨h1, h2⟩ => ?_
  cases k with
  | true =>
    refine iteT ⟨fun σ2 H2 => ∃ m', m' < m ∧ ∃ G2 ρ2 t2, Sat M t2 G2 H2 σ2 ρ2 ∧ Same G G2 ∧ Iv m' ρ2 t2, fun σ2 H2 ⟨m', hm, q⟩ => ⟨m', hm, q⟩, ?_⟩
    exact h1 rfl σ' G1 H1 (S'.step s1) _ ⟨fun σ4 G4 H4 ρ4 t4 S4 g ⟨m', hm, q⟩ => ⟨m', hm, G4, ρ4, t4, S4, (sm.trans s1.gg).trans g, q⟩, fun σ4 G4 H4 ρ4 t4 S4 g q => F.nx σ4 G4 H4 ρ4 t4 S4 ((sm.trans s1.gg).trans g) q,
      fun σ4 G4 H4 ρ4 t4 S4 g ⟨m', hm, q⟩ => ⟨m', hm, G4, ρ4, t4, S4, (sm.trans s1.gg).trans g, q⟩, F.rt, F.rtL⟩
  | false => exact iteF (F.nx σ' G1 H1 ρ' t1 (S'.step s1) (sm.trans s1.gg) (h2 rfl))
end

/-! ### comprehensions -/
def wipeB (ρ : List B) : List Nat → List B
  | [] => ρ
  | v :: vs => (wipeB ρ vs).set v .un
theorem Sat.wipe {K : KK} {Wo : WO} {M : Md K Wo} {t : Rs} {G H : Hp} {σ : L2.St} {ρ : List B} (S : Sat M t G H σ ρ) : ∀ vs : List Nat, Sat M t G H (L2.wipe σ vs) (wipeB ρ vs)
  | [] => S
  | v :: vs => (Sat.wipe S vs).un
/-- the names of a comprehension are its target's alone -/
def Wipes (g : TG) (vs : List Nat) : Prop := ∀ (v : V) (σ : L2.St) (H : Hp) (Q : L2.St → Hp → Prop), g v (wipe σ vs) H Q → g v (wipe σ vs) H fun σ2 H2 => wipe σ2 vs = wipe σ vs ∧ Q σ2 H2
theorem wipes1 {i : Nat} : Wipes (gName i) [i] := fun v σ H Q h => ⟨by simp [wipe], h⟩
theorem wipes2 {K : KK} {i j n : Nat} (hij : i ≠ j) : Wipes (gTup K n (gCons (gName i) (gCons (gName j) gNil))) [i, j] := fun v σ H Q h => by
  obtain ⟨a, xs, e, q, l, x, r, e1, y, r2, e2, e3, h⟩ := h
  refine ⟨a, xs, e, q, l, x, r, e1, y, r2, e2, e3, ?_, h⟩
  simp only [wipe, List.set_set]
  rw [List.set_comm _ _ hij]
  simp only [List.set_set]
theorem wipes3 {K : KK} {i j k n : Nat} (hij : i ≠ j) (hik : i ≠ k) (hjk : j ≠ k) : Wipes (gTup K n (gCons (gName i) (gCons (gName j) (gCons (gName k) gNil)))) [i, j, k] := fun v σ H Q h => by
  obtain ⟨a, xs, e, q, l, x, r, e1, y, r2, e2, z, r3, e3, e4, h⟩ := h
  refine ⟨a, xs, e, q, l, x, r, e1, y, r2, e2, z, r3, e3, e4, ?_, h⟩
  simp only [wipe, List.set_set]
  apply List.ext_getElem?
  intro m
  simp only [List.getElem?_set]
  repeat' split
  all_goals first | (simp_all; done) | omega | (simp_all; omega)
abbrev Blk (X : Cx) (scope : Scope) (s : Shared) (H : Hp) (C : Addr) (cl : List (Str × Addr)) (fp : List Addr) : Cx := X.blk s H scope (compEnvC scope cl C X.env) fp
@[irreducible] def TeAll (X : Cx) (scope : Scope) (e : Expr) : TE := fun σ H Q => ∀ (s : Shared) (H0 : Hp) (C : Addr) (cl : List (Str × Addr)) (fp : List Addr), TeOf (Blk X scope s H0 C cl fp) e σ H Q
@[irreducible] def TtAll (X : Cx) (scope : Scope) (e : Expr) : TT := fun σ H Q => ∀ (s : Shared) (H0 : Hp) (C : Addr) (cl : List (Str × Addr)) (fp : List Addr), TtOf (Blk X scope s H0 C cl fp) e σ H Q
section
variable {X : Cx} {Wo : WO} {M : Md X.KK Wo} {ρ : List B} {t : Rs} {elt cond tg iter : Expr} {P : List PyData → Rs → Prop} {pos : Pos} {scope : Scope} {own : List (Str × Nat)} {g : TG}
theorem peA {e : Expr} (s : Shared) (H0 : Hp) (C : Addr) (cl : List (Str × Addr)) (fp : List Addr) : PE (Blk X scope s H0 C cl fp) e (TeAll X scope e) := by unfold TeAll; exact ⟨fun pins s' σ H Q I h => peT.run pins s' σ H Q I (h s H0 C cl fp)⟩
theorem ptA {e : Expr} (s : Shared) (H0 : Hp) (C : Addr) (cl : List (Str × Addr)) (fp : List Addr) : PT (Blk X scope s H0 C cl fp) e (TtAll X scope e) := by unfold TtAll; exact ⟨fun pins s' σ H Q I h => ptT.run pins s' σ H Q I (h s H0 C cl fp)⟩
/-- elt and cond in the block, whatever it begins with -/
def JDb {Wo : WO} (M : Md X.KK Wo) (scope : Scope) (e : Expr) (ρ : List B) (t : Rs) (P : PyData → Rs → Prop) : Prop := ∀ (s : Shared) (H0 : Hp) (C : Addr) (cl : List (Str × Addr)) (fp : List Addr), JD (X := Blk X scope s H0 C cl fp) M e ρ t P
def JTb {Wo : WO} (M : Md X.KK Wo) (scope : Scope) (e : Expr) (ρ : List B) (t : Rs) (P : Bool → Rs → Prop) : Prop := ∀ (s : Shared) (H0 : Hp) (C : Addr) (cl : List (Str × Addr)) (fp : List Addr), JT (X := Blk X scope s H0 C cl fp) M e ρ t P
theorem JDb.all {e : Expr} {ρ : List B} {t : Rs} {P : PyData → Rs → Prop} (h : JDb M scope e ρ t P) : DD M (TeAll X scope e) ρ t P := fun σ G H S Q q => by first | (unfold TeAll; exact fun s H0 C cl fp => h s H0 C cl fp σ G H S Q q) | (unfold TtAll; exact fun s H0 C cl fp => h s H0 C cl fp σ G H S Q q)
theorem JTb.all {e : Expr} {ρ : List B} {t : Rs} {P : Bool → Rs → Prop} (h : JTb M scope e ρ t P) : DT M (TtAll X scope e) ρ t P := fun σ G H S Q q => by first | (unfold TeAll; exact fun s H0 C cl fp => h s H0 C cl fp σ G H S Q q) | (unfold TtAll; exact fun s H0 C cl fp => h s H0 C cl fp σ G H S Q q)
/-- a turn of a comprehension: tt its test -/
def Turn1 {Wo : WO} (M : Md X.KK Wo) (scope : Scope) (elt : Expr) (g : TG) (tt : TT) (vs : List Nat) (ρ : List B) (x : PyData) (t : Rs) (acc : List PyData) (N : List PyData → Rs → Prop) : Prop :=
  DG M g x (wipeB ρ vs) fun ρ2 => DT M tt ρ2 t fun b t2 => (b = true → JDb M scope elt ρ2 t2 fun y t3 => acc.length < 16777216 ∧ N (acc ++ [y]) t3) ∧ (b = false → N acc t2)
theorem lc_dl {wi : TI} {tt : TT} {vs : List Nat} (hw : Wipes g vs) (hi : DI M wi ρ t fun xs t1 => ∃ Iv : Nat → List PyData → Rs → Prop, Iv 0 [] t1 ∧
      (∀ (i : Nat) (x : PyData) (acc : List PyData) (t' : Rs), xs[i]? = some x → Iv i acc t' → Turn1 M scope elt g tt vs ρ x t' acc (Iv (i + 1))) ∧ (∀ (acc : List PyData) (t' : Rs), Iv xs.length acc t' → P acc t')) :
    DL M (tLc wi g tt (TeAll X scope elt) vs) ρ t P := fun σ G H S Q q => hi σ G H S _ fun G1 H1 J xs t1 s1 wk ⟨Iv, h0, hst, hd⟩ D hD => by
  have S1 := S.step s1
  have gD : G1 D = none := none_of S1.ok hD
  refine ⟨fun i m H' => m = xs.length - i ∧ i ≤ xs.length ∧ ∃ G' acc ws t', Stp M t' G1 H1 G' H' ∧ G' D = none ∧ H' D = some (.lst ws) ∧ DeAll X.KK G' ws acc ∧ Iv i acc t', ⟨xs.length, rfl, Nat.zero_le _, G1, [], [], t1, S1.ok.layO hD, gD, upd_same, .nil, h0⟩, ?_⟩
  rintro i m H' ⟨rfl, hle, G', acc, ws, t', s', gD', hD', da, hI⟩
  have S' := S1.step s'
  by_cases hlt : i < xs.length
  · refine .inr ⟨wk.go i t' G' H' s'.gg S'.ok hlt, fun H2 => ∃ G2 acc2 ws2 t2, Stp M t2 G1 H1 G2 H2 ∧ G2 D = none ∧ H2 D = some (.lst ws2) ∧ DeAll X.KK G2 ws2 acc2 ∧ Iv (i + 1) acc2 t2, fun H2 ⟨G2, acc2, ws2, t2, a1, a2, a3, a4, a5⟩ => ⟨xs.length - (i + 1), by omega, rfl, hlt, G2, acc2, ws2, t2, a1, a2, a3, a4, a5⟩, fun x H2 y => ?_⟩
    obtain ⟨G2, d, s2, e2, d2⟩ := wk.yld i t' G' H' x H2 s'.gg S'.ok y hlt
    refine hw _ _ _ _ (hst i d acc t' e2 hI t' G2 H2 _ x ((S'.step s2).wipe vs) d2 _ fun σ3 ρ3 S3 hT => ?_)
    have nr : D ≠ M.r := S1.ne_r hD
    refine hT σ3 G2 H2 S3 _ fun G4 H4 b t4 s4 ⟨hy, hn⟩ => ?_
    have keepD : ∀ {Ga Ha Gb Hb : Hp} {tb : Rs}, Stp M tb Ga Ha Gb Hb → ∀ {us : List V}, Ha D = some (.lst us) → Ga D = none → Hb D = some (.lst us) ∧ Gb D = none := fun s us h g => ⟨s.hh D _ nr (fun _ z => by cases z) h, s.fr D (by rw [h]; simp) g⟩
    obtain ⟨hD2, gD2⟩ := keepD s2 hD' gD'
    obtain ⟨hD4, gD4⟩ := keepD s4 hD2 gD2
    cases b with
    | false => exact iteF ⟨G4, acc, ws, t4, (s'.trans s2).trans s4, gD4, hD4, DeAll.up (s2.gg.trans s4.gg) _ _ da, hn rfl⟩
    | true =>
      refine iteT ((hy rfl).all σ3 G4 H4 (S3.step s4) _ fun G5 H5 v y t5 s5 d5 ⟨hl, hN⟩ => ?_)
      obtain ⟨hD5, gD5⟩ := keepD s5 hD4 gD4
      have da5 : DeAll X.KK G5 ws acc := DeAll.up ((s2.gg.trans s4.gg).trans s5.gg) _ _ da
      have st5 := ((s'.trans s2).trans s4).trans s5
      refine ⟨ws, hD5, line_lt (by rw [da5.length]; exact hl), G5, acc ++ [y], ws ++ [v], t5, ?_, gD5, upd_same, da5.app (.cons d5 .nil), hN⟩
      refine ⟨st5.gg, fun b u nb nt z => ?_, fun b e => (by
        by_cases hb : b = D
        · rw [hb, upd_same]; simp
        · rw [upd_ne hb]; exact st5.al b e), st5.fr, fun b u z => ?_, ?_, ⟨tabs_upd st5.tb.1 (.inr (.inl ⟨_, hD5⟩)), st5.tb.2⟩⟩
      · by_cases hb : b = D
        · rw [hb] at z
          rw [hD] at z
          cases z
        · rw [upd_ne hb]
          exact st5.hh b u nb nt z
      · by_cases hb : b = D
        · rw [hb] at z
          rw [gD5] at z
          cases z
        · rw [upd_ne hb]
          exact st5.sub b u z
      · obtain ⟨o, q, w⟩ := st5.rd
        refine ⟨o, ?_, w⟩
        rw [upd_ne (Ne.symm nr)]
        exact q
  · have ei : i = xs.length := by omega
    subst ei
    refine .inl ⟨wk.stop _ t' G' H' s'.gg S'.ok (Nat.le_refl _), ?_⟩
    exact q G' H' D ws acc t' (s1.trans s') (fresh_of s1 hD) gD' hD' da (hd acc t' hI)
end
end Dl
end
section
set_option maxRecDepth 100000
set_option maxHeartbeats 4000000
namespace Dl
open PySem PySem.Spec PyProof.Rows L2

section
variable {X : Cx} {Wo : WO} {M : Md X.KK Wo} {ρ : List B} {t : Rs} {elt cond tg iter : Expr} {P : List PyData → Rs → Prop} {pos : Pos} {scope : Scope} {own : List (Str × Nat)} {g : TG} {D : Dk}
/-- a turn without a test -/
def TurnE {Wo : WO} (M : Md X.KK Wo) (scope : Scope) (elt : Expr) (g : TG) (vs : List Nat) (ρ : List B) (x : PyData) (t : Rs) (acc : List PyData) (N : List PyData → Rs → Prop) : Prop :=
  DG M g x (wipeB ρ vs) fun ρ2 => JDb M scope elt ρ2 t fun y t3 => acc.length < 16777216 ∧ N (acc ++ [y]) t3
def TurnT {Wo : WO} (M : Md X.KK Wo) (scope : Scope) (elt cond : Expr) (g : TG) (vs : List Nat) (ρ : List B) (x : PyData) (t : Rs) (acc : List PyData) (N : List PyData → Rs → Prop) : Prop :=
  DG M g x (wipeB ρ vs) fun ρ2 => JTb M scope cond ρ2 t fun b t2 => (b = true → JDb M scope elt ρ2 t2 fun y t3 => acc.length < 16777216 ∧ N (acc ++ [y]) t3) ∧ (b = false → N acc t2)
theorem TurnE.one {vs : List Nat} {x : PyData} {acc : List PyData} {N : List PyData → Rs → Prop} (h : TurnE M scope elt g vs ρ x t acc N) : Turn1 M scope elt g tYes vs ρ x t acc N := fun t0 G H σ v S d R r =>
  h t0 G H σ v S d R fun σ' ρ' S' j => r σ' ρ' S' fun σ2 G2 H2 S2 Q q => q G2 H2 true t S2.ok.refl ⟨fun _ => j, fun z => by cases z⟩
theorem TurnT.one {vs : List Nat} {x : PyData} {acc : List PyData} {N : List PyData → Rs → Prop} (h : TurnT M scope elt cond g vs ρ x t acc N) : Turn1 M scope elt g (TtAll X scope cond) vs ρ x t acc N := fun t0 G H σ v S d R r =>
  h t0 G H σ v S d R fun σ' ρ' S' j => r σ' ρ' S' j.all
theorem jl_comp (hc : X.calm = true) (hN : X.N.Nodup) (ok : BlkOk X.N X.env.scope scope own) (hw : Wipes g (own.map (·.2)))
    (hg : ∀ (s : Shared) (H : Hp) (C : Addr) (cl : List (Str × Addr)) (fp : List Addr), PG (X.blk s H scope (compEnvC scope cl C X.env) fp) tg g)
    (hi : JI M tg iter ρ t fun xs t1 => ∃ Iv : Nat → List PyData → Rs → Prop, Iv 0 [] t1 ∧
      (∀ (i : Nat) (x : PyData) (acc : List PyData) (t' : Rs), xs[i]? = some x → Iv i acc t' → TurnE M scope elt g (own.map (·.2)) ρ x t' acc (Iv (i + 1))) ∧ (∀ (acc : List PyData) (t' : Rs), Iv xs.length acc t' → P acc t'))
    (hs : ∀ x, foldedSetIterable iter X.env x = pure x := by intro _; rfl) : JL M (.ListComp elt [⟨tg, iter, [], 0⟩] scope pos) ρ t P :=
  jl_of (pe_lc (own := own) (g := g) (tt := tYes) (te := TeAll X scope elt) hc hN piT ok hg (fun _ _ _ _ _ => pts_nil) (fun s H C cl fp => peA s H C cl fp) hs)
    (lc_dl hw fun σ G H S R r => hi σ G H S R fun G' H' J xs t' s wk ⟨Iv, h0, h1, h2⟩ => r G' H' J xs t' s wk ⟨Iv, h0, fun i x acc t' e hI => (h1 i x acc t' e hI).one, h2⟩)
theorem jl_compT (hc : X.calm = true) (hN : X.N.Nodup) (ok : BlkOk X.N X.env.scope scope own) (hw : Wipes g (own.map (·.2)))
    (hg : ∀ (s : Shared) (H : Hp) (C : Addr) (cl : List (Str × Addr)) (fp : List Addr), PG (X.blk s H scope (compEnvC scope cl C X.env) fp) tg g)
    (hi : JI M tg iter ρ t fun xs t1 => ∃ Iv : Nat → List PyData → Rs → Prop, Iv 0 [] t1 ∧
      (∀ (i : Nat) (x : PyData) (acc : List PyData) (t' : Rs), xs[i]? = some x → Iv i acc t' → TurnT M scope elt cond g (own.map (·.2)) ρ x t' acc (Iv (i + 1))) ∧ (∀ (acc : List PyData) (t' : Rs), Iv xs.length acc t' → P acc t'))
    (hs : ∀ x, foldedSetIterable iter X.env x = pure x := by intro _; rfl) : JL M (.ListComp elt [⟨tg, iter, [cond], 0⟩] scope pos) ρ t P :=
  jl_of (pe_lc (own := own) (g := g) (tt := TtAll X scope cond) (te := TeAll X scope elt) hc hN piT ok hg (fun s H C cl fp => pts_one (ptA s H C cl fp)) (fun s H C cl fp => peA s H C cl fp) hs)
    (lc_dl hw fun σ G H S R r => hi σ G H S R fun G' H' J xs t' s wk ⟨Iv, h0, h1, h2⟩ => r G' H' J xs t' s wk ⟨Iv, h0, fun i x acc t' e hI => (h1 i x acc t' e hI).one, h2⟩)
/-- y = [elt for ..] -/
theorem js_comp (i : Nat) {y : Str} {py spos : Pos} (hc : X.calm = true) (hN : X.N.Nodup) (ok : BlkOk X.N X.env.scope scope own) (hw : Wipes g (own.map (·.2)))
    (hg : ∀ (s : Shared) (H : Hp) (C : Addr) (cl : List (Str × Addr)) (fp : List Addr), PG (X.blk s H scope (compEnvC scope cl C X.env) fp) tg g)
    (hsw : swapsWith (.ListComp elt [⟨tg, iter, [], 0⟩] scope pos) (some (.Name y py)) spos.line X.env = pure true)
    (hi : JI M tg iter ρ t fun xs t1 => ∃ Iv : Nat → List PyData → Rs → Prop, Iv 0 [] t1 ∧
      (∀ (i : Nat) (x : PyData) (acc : List PyData) (t' : Rs), xs[i]? = some x → Iv i acc t' → TurnE M scope elt g (own.map (·.2)) ρ x t' acc (Iv (i + 1))) ∧ (∀ (acc : List PyData) (t' : Rs), Iv xs.length acc t' → D.nx (ρ.set i (.own acc)) t'))
    (hy : X.N[i]? = some y := by rfl) (hyl : X.env.scope.names.lookup y = some .local := by rfl) (hs : ∀ x, foldedSetIterable iter X.env x = pure x := by intro _; rfl) : JS M (.Assign [.Name y py] (.ListComp elt [⟨tg, iter, [], 0⟩] scope pos) spos) ρ t D :=
  js_of (ps_setLc (own := own) (g := g) (tt := tYes) (te := TeAll X scope elt) hc hN hy hyl hsw piT ok hg (fun _ _ _ _ _ => pts_nil) (fun s H C cl fp => peA s H C cl fp) hs) fun σ G H S E F =>
    (lc_dl (P := fun acc t' => D.nx (ρ.set i (.own acc)) t') hw fun σ G H S R r => hi σ G H S R fun G' H' J xs t' s wk ⟨Iv, h0, h1, h2⟩ => r G' H' J xs t' s wk ⟨Iv, h0, fun i x acc t' e hI => (h1 i x acc t' e hI).one, h2⟩) σ G H S _ fun G1 H1 l ws xs t1 s1 n g e a p =>
      F.nx _ G1 H1 _ t1 ((S.step s1).setL (S.ne_r n) g e (fresh_of S.st n) a fun j ys _ z => S.fresh n z) s1.gg p
theorem js_compT (i : Nat) {y : Str} {py spos : Pos} (hc : X.calm = true) (hN : X.N.Nodup) (ok : BlkOk X.N X.env.scope scope own) (hw : Wipes g (own.map (·.2)))
    (hg : ∀ (s : Shared) (H : Hp) (C : Addr) (cl : List (Str × Addr)) (fp : List Addr), PG (X.blk s H scope (compEnvC scope cl C X.env) fp) tg g)
    (hsw : swapsWith (.ListComp elt [⟨tg, iter, [cond], 0⟩] scope pos) (some (.Name y py)) spos.line X.env = pure true)
    (hi : JI M tg iter ρ t fun xs t1 => ∃ Iv : Nat → List PyData → Rs → Prop, Iv 0 [] t1 ∧
      (∀ (i : Nat) (x : PyData) (acc : List PyData) (t' : Rs), xs[i]? = some x → Iv i acc t' → TurnT M scope elt cond g (own.map (·.2)) ρ x t' acc (Iv (i + 1))) ∧ (∀ (acc : List PyData) (t' : Rs), Iv xs.length acc t' → D.nx (ρ.set i (.own acc)) t'))
    (hy : X.N[i]? = some y := by rfl) (hyl : X.env.scope.names.lookup y = some .local := by rfl) (hs : ∀ x, foldedSetIterable iter X.env x = pure x := by intro _; rfl) : JS M (.Assign [.Name y py] (.ListComp elt [⟨tg, iter, [cond], 0⟩] scope pos) spos) ρ t D :=
  js_of (ps_setLc (own := own) (g := g) (tt := TtAll X scope cond) (te := TeAll X scope elt) hc hN hy hyl hsw piT ok hg (fun s H C cl fp => pts_one (ptA s H C cl fp)) (fun s H C cl fp => peA s H C cl fp) hs) fun σ G H S E F =>
    (lc_dl (P := fun acc t' => D.nx (ρ.set i (.own acc)) t') hw fun σ G H S R r => hi σ G H S R fun G' H' J xs t' s wk ⟨Iv, h0, h1, h2⟩ => r G' H' J xs t' s wk ⟨Iv, h0, fun i x acc t' e hI => (h1 i x acc t' e hI).one, h2⟩) σ G H S _ fun G1 H1 l ws xs t1 s1 n g e a p =>
      F.nx _ G1 H1 _ t1 ((S.step s1).setL (S.ne_r n) g e (fresh_of S.st n) a fun j ys _ z => S.fresh n z) s1.gg p
end

/-! ### comprehensions whose element is a function of the item -/
section
variable {X : Cx} {Wo : WO} {M : Md X.KK Wo} {ρ : List B} {t : Rs} {elt cond tg iter : Expr} {P : List PyData → Rs → Prop} {pos : Pos} {scope : Scope} {own : List (Str × Nat)} {g : TG} {D : Dk}
/-- what a map's source and element ask -/
def MapOk (M : Md X.KK Wo) (scope : Scope) (elt : Expr) (g : TG) (vs : List Nat) (ρ : List B) (t : Rs) (f : PyData → PyData) (xs : List PyData) : Prop :=
  xs.length ≤ 16777216 ∧ ∀ x ∈ xs, DG M g x (wipeB ρ vs) fun ρ2 => JDb M scope elt ρ2 t fun y t3 => y = f x ∧ t3 = t
def FiltOk (M : Md X.KK Wo) (scope : Scope) (elt cond : Expr) (g : TG) (vs : List Nat) (ρ : List B) (t : Rs) (c : PyData → Bool) (f : PyData → PyData) (xs : List PyData) : Prop :=
  xs.length ≤ 16777216 ∧ ∀ x ∈ xs, DG M g x (wipeB ρ vs) fun ρ2 => JTb M scope cond ρ2 t fun b t2 => b = c x ∧ t2 = t ∧ (c x = true → JDb M scope elt ρ2 t fun y t3 => y = f x ∧ t3 = t)
theorem MapOk.turns {vs : List Nat} {f : PyData → PyData} {xs : List PyData} (h : MapOk M scope elt g vs ρ t f xs) {N : List PyData → Rs → Prop} (q : N (xs.map f) t) : ∃ Iv : Nat → List PyData → Rs → Prop, Iv 0 [] t ∧
      (∀ (i : Nat) (x : PyData) (acc : List PyData) (t' : Rs), xs[i]? = some x → Iv i acc t' → TurnE M scope elt g vs ρ x t' acc (Iv (i + 1))) ∧ (∀ (acc : List PyData) (t' : Rs), Iv xs.length acc t' → N acc t') := by
  refine ⟨fun i acc t' => acc = (xs.take i).map f ∧ t' = t, ⟨rfl, rfl⟩, fun i x acc t' ex ⟨ea, et⟩ => ?_, fun acc t' ⟨ea, et⟩ => ?_⟩
  · subst ea et
    have hi : i < xs.length := by
      by_cases z : i < xs.length
      · exact z
      · rw [List.getElem?_eq_none (by omega)] at ex
        cases ex
    intro t0 G H σ v S d R r
    refine h.2 x (List.mem_of_getElem? ex) t0 G H σ v S d R fun σ' ρ' S' j => r σ' ρ' S' fun s0 H0 C cl fp => (j s0 H0 C cl fp).imp fun y t3 ⟨e1, e2⟩ => ⟨?_, ?_, e2⟩
    · rw [List.length_map, List.length_take]
      have := h.1
      omega
    · rw [List.take_add_one, ex, e1]
      simp
  · subst ea et
    rw [List.take_length]
    exact q
theorem FiltOk.turns {vs : List Nat} {c : PyData → Bool} {f : PyData → PyData} {xs : List PyData} (h : FiltOk M scope elt cond g vs ρ t c f xs) {N : List PyData → Rs → Prop} (q : N ((xs.filter c).map f) t) : ∃ Iv : Nat → List PyData → Rs → Prop, Iv 0 [] t ∧
      (∀ (i : Nat) (x : PyData) (acc : List PyData) (t' : Rs), xs[i]? = some x → Iv i acc t' → TurnT M scope elt cond g vs ρ x t' acc (Iv (i + 1))) ∧ (∀ (acc : List PyData) (t' : Rs), Iv xs.length acc t' → N acc t') := by
  refine ⟨fun i acc t' => acc = ((xs.take i).filter c).map f ∧ t' = t, ⟨rfl, rfl⟩, fun i x acc t' ex ⟨ea, et⟩ => ?_, fun acc t' ⟨ea, et⟩ => ?_⟩
  · subst ea et
    have hi : i < xs.length := by
      by_cases z : i < xs.length
      · exact z
      · rw [List.getElem?_eq_none (by omega)] at ex
        cases ex
    intro t0 G H σ v S d R r
    refine h.2 x (List.mem_of_getElem? ex) t0 G H σ v S d R fun σ' ρ' S' j => r σ' ρ' S' fun s0 H0 C cl fp => (j s0 H0 C cl fp).imp fun b t2 ⟨e1, e2, e3⟩ => ?_
    subst e2
    refine ⟨fun hb s1 H1 C1 cl1 fp1 => (e3 (by rw [← e1]; exact hb) s1 H1 C1 cl1 fp1).imp fun y t3 ⟨e4, e5⟩ => ⟨?_, ?_, e5⟩, fun hb => ⟨?_, rfl⟩⟩
    · rw [List.length_map]
      have h1 := List.length_filter_le c (xs.take i)
      rw [List.length_take] at h1
      have := h.1
      omega
    · rw [List.take_add_one, ex, e4, List.filter_append, List.map_append]
      have : c x = true := by rw [← e1]; exact hb
      simp [this]
    · rw [List.take_add_one, ex, List.filter_append, List.map_append]
      have : c x = false := by rw [← e1]; exact hb
      simp [this]
  · subst ea et
    rw [List.take_length]
    exact q
theorem jl_map (f : PyData → PyData) (hc : X.calm = true) (hN : X.N.Nodup) (ok : BlkOk X.N X.env.scope scope own) (hw : Wipes g (own.map (·.2)))
    (hg : ∀ (s : Shared) (H : Hp) (C : Addr) (cl : List (Str × Addr)) (fp : List Addr), PG (X.blk s H scope (compEnvC scope cl C X.env) fp) tg g)
    (hi : JI M tg iter ρ t fun xs t1 => MapOk M scope elt g (own.map (·.2)) ρ t1 f xs ∧ P (xs.map f) t1) (hs : ∀ x, foldedSetIterable iter X.env x = pure x := by intro _; rfl) : JL M (.ListComp elt [⟨tg, iter, [], 0⟩] scope pos) ρ t P :=
  jl_comp hc hN ok hw hg (fun σ G H S R r => hi σ G H S R fun G' H' J xs t' s wk ⟨h1, h2⟩ => r G' H' J xs t' s wk (h1.turns h2)) hs
theorem jl_filt (c : PyData → Bool) (f : PyData → PyData) (hc : X.calm = true) (hN : X.N.Nodup) (ok : BlkOk X.N X.env.scope scope own) (hw : Wipes g (own.map (·.2)))
    (hg : ∀ (s : Shared) (H : Hp) (C : Addr) (cl : List (Str × Addr)) (fp : List Addr), PG (X.blk s H scope (compEnvC scope cl C X.env) fp) tg g)
    (hi : JI M tg iter ρ t fun xs t1 => FiltOk M scope elt cond g (own.map (·.2)) ρ t1 c f xs ∧ P ((xs.filter c).map f) t1) (hs : ∀ x, foldedSetIterable iter X.env x = pure x := by intro _; rfl) : JL M (.ListComp elt [⟨tg, iter, [cond], 0⟩] scope pos) ρ t P :=
  jl_compT hc hN ok hw hg (fun σ G H S R r => hi σ G H S R fun G' H' J xs t' s wk ⟨h1, h2⟩ => r G' H' J xs t' s wk (h1.turns h2)) hs
end

/-! ### the lists of slots, changed in place -/
section
variable {X : Cx} {Wo : WO} {M : Md X.KK Wo} {ρ : List B} {t : Rs} {e a b : Expr} {P : PyData → Rs → Prop} {pos cpos apos : Pos} {D : Dk} {x : Str} {p : Pos}
theorem own_at {K : KK} {Wo : WO} {M : Md K Wo} {t : Rs} {G H : Hp} {σ : L2.St} {ρ : List B} {i : Nat} {xs : List PyData} (S : Sat M t G H σ ρ) (e : ρ[i]? = some (.own xs)) : ∃ (l : Addr) (ws : List V), σ[i]? = some (some (.ref l)) ∧ H l = some (.lst ws) ∧ DeAll K G ws xs := by
  obtain ⟨l, ws, e1, _, _, h, _, d⟩ := S.at_ i _ e
  exact ⟨l, ws, e1, h, d⟩
theorem jt_own (i : Nat) {xs : List PyData} {P : Bool → Rs → Prop} (hr : ρ[i]? = some (.own xs)) (q : P (!xs.isEmpty) t) (hN : X.N[i]? = some x := by rfl) (hv : Vis X.env.scope x := by first | exact Or.inl rfl | exact Or.inr (Or.inl rfl) | exact Or.inr (Or.inr rfl))
    (hd : (x == ("__debug__" : Str)) = false := by decide) (hcd : (x == ("__classdict__" : Str)) = false := by decide) : JT M (.Name x p) ρ t P := jt_of (pt_truth (pv i hN hv hd hcd) (by intro _; rfl)) fun σ G H S Q r => by
  obtain ⟨l, ws, e1, h, d⟩ := own_at S hr
  exact ⟨.ref l, e1, _, .inl ⟨ws, .inl (.inl h), empty_eq d⟩, r G H _ t S.ok.refl q⟩
theorem js_append (i : Nat) {xs : List PyData} (hr : ρ[i]? = some (.own xs)) (h : JD M e ρ t fun y t1 => xs.length < 16777216 ∧ D.nx (ρ.set i (.own (xs ++ [y]))) t1)
    (hN : X.N[i]? = some x := by rfl) (hv : Vis X.env.scope x := by first | exact Or.inl rfl | exact Or.inr (Or.inl rfl) | exact Or.inr (Or.inr rfl)) (hd : (x == ("__debug__" : Str)) = false := by decide) (hcd : (x == ("__classdict__" : Str)) = false := by decide)
    (hs : swapsWith (.Call (.Attribute (.Name x p) "append" apos) [e] [] cpos) none pos.line X.env = pure false := by rfl) (h3 : starEach [e] X.env = (false, eval e X.env) :: starEach [] X.env := by rfl)
    (h1 : attributeBase (.Name x p) "append" X.env (eval (.Name x p) X.env) = eval (.Name x p) X.env := by rfl)
    (h2 : ((((backTo cpos (starEach [e] X.env)).all fun x => !x.1) && (backToKw cpos (keywordEach [] X.env)).all fun x => x.1.isSome) && decide (([e].length + ([] : List Keyword).length + if ([] : List Keyword).isEmpty = true then 0 else 1) < 30)) = true := by rfl)
    (h4 : (apos.endLine == cpos.line) = true := by rfl) (h5 : ((backTo cpos (starEach [] X.env)).any fun x => x.1) = false := by rfl) : JS M (.Expr (.Call (.Attribute (.Name x p) "append" apos) [e] [] cpos) pos) ρ t D :=
  js_of (ps_expr (pe_bm PySem.F.plainAttrs_list PySem.F.slot_list_append PySem.F.type_list_append mt_append (pv i hN hv hd hcd) (pa_cons peT pa_nil h3) h1 h2 h4 h3 h5) hs) fun σ G H S E F => by
    obtain ⟨l, ws, e1, h1, d⟩ := own_at S hr
    refine ⟨.ref l, e1, .inl ⟨rfl, ws, .inl (.inl h1)⟩, h σ G H S _ fun G1 H1 v y t1 s1 d1 ⟨hl, p⟩ => ?_⟩
    have S1 := S.step s1
    obtain ⟨l2, ws2, e2, h2, d2⟩ := own_at S1 hr
    rw [e1] at e2
    cases e2
    exact ⟨l, ws2, v, rfl, rfl, h2, line_lt (by rw [d2.length]; exact hl), F.nx σ G1 _ _ t1 (S1.write hr e1 (d2.app (.cons d1 .nil))) s1.gg p⟩
theorem js_extend (i : Nat) {xs : List PyData} (hr : ρ[i]? = some (.own xs)) (h : JD M e ρ t fun y t1 => ∃ ys, y = .list ys ∧ xs.length + ys.length ≤ 16777216 ∧ D.nx (ρ.set i (.own (xs ++ ys))) t1)
    (hN : X.N[i]? = some x := by rfl) (hv : Vis X.env.scope x := by first | exact Or.inl rfl | exact Or.inr (Or.inl rfl) | exact Or.inr (Or.inr rfl)) (hd : (x == ("__debug__" : Str)) = false := by decide) (hcd : (x == ("__classdict__" : Str)) = false := by decide)
    (hs : swapsWith (.Call (.Attribute (.Name x p) "extend" apos) [e] [] cpos) none pos.line X.env = pure false := by rfl) (h3 : starEach [e] X.env = (false, eval e X.env) :: starEach [] X.env := by rfl)
    (h1 : attributeBase (.Name x p) "extend" X.env (eval (.Name x p) X.env) = eval (.Name x p) X.env := by rfl)
    (h2 : ((((backTo cpos (starEach [e] X.env)).all fun x => !x.1) && (backToKw cpos (keywordEach [] X.env)).all fun x => x.1.isSome) && decide (([e].length + ([] : List Keyword).length + if ([] : List Keyword).isEmpty = true then 0 else 1) < 30)) = true := by rfl)
    (h4 : (apos.endLine == cpos.line) = true := by rfl) (h5 : ((backTo cpos (starEach [] X.env)).any fun x => x.1) = false := by rfl) : JS M (.Expr (.Call (.Attribute (.Name x p) "extend" apos) [e] [] cpos) pos) ρ t D :=
  js_of (ps_expr (pe_bm PySem.F.plainAttrs_list PySem.F.slot_list_extend PySem.F.type_list_extend mt_extend (pv i hN hv hd hcd) (pa_cons peT pa_nil h3) h1 h2 h4 h3 h5) hs) fun σ G H S E F => by
    obtain ⟨l, ws, e1, h1, d⟩ := own_at S hr
    refine ⟨.ref l, e1, .inl ⟨rfl, ws, .inl (.inl h1)⟩, h σ G H S _ fun G1 H1 v y t1 s1 d1 ⟨ys, ey, hl, p⟩ => ?_⟩
    subst ey
    have S1 := S.step s1
    obtain ⟨l2, ws2, e2, h2, d2⟩ := own_at S1 hr
    rw [e1] at e2
    cases e2
    obtain ⟨b2, us, rfl, st, du⟩ := d1.lstE
    exact ⟨l, b2, ws2, us, rfl, rfl, h2, S1.ok.sub _ _ st, line_of (by rw [d2.length, du.length]; exact hl), F.nx σ G1 _ _ t1 (S1.write hr e1 (d2.app du)) s1.gg p⟩
/-- target = xs.pop() -/
theorem js_popTo (i : Nat) {tg : Expr} {g : TG} {xs : List PyData} {y : PyData} (hr : ρ[i]? = some (.own (xs ++ [y]))) (hg : PG X tg g) (h : DG M g y (ρ.set i (.own xs)) fun ρ' => D.nx ρ' t)
    (hN : X.N[i]? = some x := by rfl) (hv : Vis X.env.scope x := by first | exact Or.inl rfl | exact Or.inr (Or.inl rfl) | exact Or.inr (Or.inr rfl)) (hd : (x == ("__debug__" : Str)) = false := by decide) (hcd : (x == ("__classdict__" : Str)) = false := by decide)
    (hs : swapsWithSole [tg] (.Call (.Attribute (.Name x p) "pop" apos) [] [] cpos) pos.line X.env = pure false := by rfl) (hw : swappedStores [tg] (.Call (.Attribute (.Name x p) "pop" apos) [] [] cpos) X.env = pure none := by rfl)
    (ha : (assignEach [tg] X.env).map (·.2) = [assign tg X.env] := by rfl)
    (h1 : attributeBase (.Name x p) "pop" X.env (eval (.Name x p) X.env) = eval (.Name x p) X.env := by rfl) (h4 : (apos.endLine == cpos.line) = true := by rfl) : JS M (.Assign [tg] (.Call (.Attribute (.Name x p) "pop" apos) [] [] cpos) pos) ρ t D :=
  js_of (ps_asg (pe_bm0 PySem.F.plainAttrs_list PySem.F.slot_list_pop PySem.F.type_list_pop mt_pop (pv i hN hv hd hcd) h1 h4) hg hs hw ha) fun σ G H S E F => by
    obtain ⟨l, ws, e1, h1, d⟩ := own_at S hr
    have el : ws.length = xs.length + 1 := by rw [d.length, List.length_append]; rfl
    obtain ⟨v, ev, dv⟩ := d.at_ (i := xs.length) (d := y) (by simp)
    refine ⟨.ref l, e1, .inl ⟨rfl, ws, .inl (.inl h1)⟩, l, ws, v, rfl, rfl, h1, by rw [el, Nat.add_sub_cancel]; exact ev, ?_⟩
    have dd : DeAll X.KK G ws.dropLast xs := by
      have z := d.take xs.length
      rw [List.take_left] at z
      rw [List.dropLast_eq_take, el, Nat.add_sub_cancel]
      exact z
    exact h t G _ σ v (S.write hr e1 dd) dv _ fun σ' ρ' S' q => F.nx σ' G _ ρ' t S' (Same.refl _) q
/-- xs[i] = e -/
theorem js_setIx (i : Nat) {xs : List PyData} (hr : ρ[i]? = some (.own xs)) (h : JD M e ρ t fun y t1 => JD M b ρ t1 fun z t2 => ∃ j k, z = .int j ∧ ixN xs.length j = some k ∧ D.nx (ρ.set i (.own (xs.set k y))) t2)
    (ha : ∀ v, assign (.Subscript (.Name x p) b apos) X.env v = (do
      let ov ← holding [v] (eval (.Name x p) X.env)
      let iv ← holding [v, ov] (eval b X.env)
      standAt apos
      holding [v, ov, iv] (setItem ov iv v)
      release [v, ov, iv] []) := by intro _; rfl)
    (hN : X.N[i]? = some x := by rfl) (hv : Vis X.env.scope x := by first | exact Or.inl rfl | exact Or.inr (Or.inl rfl) | exact Or.inr (Or.inr rfl)) (hd : (x == ("__debug__" : Str)) = false := by decide) (hcd : (x == ("__classdict__" : Str)) = false := by decide)
    (hs : swapsWithSole [.Subscript (.Name x p) b apos] e pos.line X.env = pure false := by rfl) (hw : swappedStores [.Subscript (.Name x p) b apos] e X.env = pure none := by rfl)
    (h1 : (assignEach [.Subscript (.Name x p) b apos] X.env).map (·.2) = [assign (.Subscript (.Name x p) b apos) X.env] := by rfl) : JS M (.Assign [.Subscript (.Name x p) b apos] e pos) ρ t D :=
  js_of (ps_asg peT (pg_sub (pv i hN hv hd hcd) peT set_list ha) hs hw h1) fun σ G H S E F => h σ G H S _ fun G1 H1 v y t1 s1 d1 h2 => by
    obtain ⟨l, ws, e1, _, _⟩ := own_at S hr
    refine ⟨.ref l, e1, h2 σ G1 H1 (S.step s1) _ fun G2 H2 w z t2 s2 d2 ⟨j, k, ez, hk, p⟩ => ?_⟩
    subst ez
    have S2 := (S.step s1).step s2
    obtain ⟨l2, ws2, e2, h2', dw⟩ := own_at S2 hr
    rw [e1] at e2
    cases e2
    refine ⟨l, ws2, j, k, rfl, d2.intE, h2', by rw [dw.length]; exact hk, F.nx σ G2 _ _ t2 (S2.write hr e1 (dw.set (De.up s2.gg _ _ d1) k)) (s1.gg.trans s2.gg) p⟩
/-- xs.pop(i) as a statement -/
theorem js_popAt (i : Nat) {xs : List PyData} (hr : ρ[i]? = some (.own xs)) (h : JD M e ρ t fun y t1 => ∃ (j : Int) (k : Nat) (z : PyData), y = .int j ∧ -(2 ^ 63) ≤ j ∧ j < 2 ^ 63 ∧ seqIndex? j xs.length = some k ∧ xs[k]? = some z ∧ D.nx (ρ.set i (.own (xs.eraseIdx k))) t1)
    (hN : X.N[i]? = some x := by rfl) (hv : Vis X.env.scope x := by first | exact Or.inl rfl | exact Or.inr (Or.inl rfl) | exact Or.inr (Or.inr rfl)) (hd : (x == ("__debug__" : Str)) = false := by decide) (hcd : (x == ("__classdict__" : Str)) = false := by decide)
    (hs : swapsWith (.Call (.Attribute (.Name x p) "pop" apos) [e] [] cpos) none pos.line X.env = pure false := by rfl) (h3 : starEach [e] X.env = (false, eval e X.env) :: starEach [] X.env := by rfl)
    (h1 : attributeBase (.Name x p) "pop" X.env (eval (.Name x p) X.env) = eval (.Name x p) X.env := by rfl)
    (h2 : ((((backTo cpos (starEach [e] X.env)).all fun x => !x.1) && (backToKw cpos (keywordEach [] X.env)).all fun x => x.1.isSome) && decide (([e].length + ([] : List Keyword).length + if ([] : List Keyword).isEmpty = true then 0 else 1) < 30)) = true := by rfl)
    (h4 : (apos.endLine == cpos.line) = true := by rfl) (h5 : ((backTo cpos (starEach [] X.env)).any fun x => x.1) = false := by rfl) : JS M (.Expr (.Call (.Attribute (.Name x p) "pop" apos) [e] [] cpos) pos) ρ t D :=
  js_of (ps_expr (pe_bm PySem.F.plainAttrs_list PySem.F.slot_list_pop PySem.F.type_list_pop mt_popAt (pv i hN hv hd hcd) (pa_cons peT pa_nil h3) h1 h2 h4 h3 h5) hs) fun σ G H S E F => by
    obtain ⟨l, ws, e1, h1, d⟩ := own_at S hr
    refine ⟨.ref l, e1, .inl ⟨rfl, ws, .inl (.inl h1)⟩, h σ G H S _ fun G1 H1 v y t1 s1 d1 ⟨j, k, z, ey, b1, b2, hk, hz, p⟩ => ?_⟩
    subst ey
    have S1 := S.step s1
    obtain ⟨l2, ws2, e2, h2, d2⟩ := own_at S1 hr
    rw [e1] at e2
    cases e2
    obtain ⟨u, eu, du⟩ := d2.at_ hz
    refine ⟨l, ws2, j, k, u, rfl, by rw [d1.intE], h2, b1, b2, by rw [d2.length]; exact hk, eu, F.nx σ G1 _ _ t1 (S1.write hr e1 ?_) s1.gg p⟩
    rw [List.eraseIdx_eq_take_drop_succ, List.eraseIdx_eq_take_drop_succ]
    exact (d2.take k).app (d2.drop (k + 1))
end
/-! ### a statement and the rest -/
section
variable {X : Cx} {Wo : WO} {M : Md X.KK Wo} {ρ : List B} {t : Rs} {e c : Expr} {pos : Pos} {D : Dk} {x : Str} {rest a b : List Stmt}
theorem jss_set (i : Nat) {pos' : Pos} (hN : X.N.Nodup) (h : JD M e ρ t fun y t1 => JSs M rest (ρ.set i (.d y)) t1 D) (hi : X.N[i]? = some x := by rfl) (hx : L2.Loc X.env.scope x := by exact Or.inl rfl) (hs : swapsWith e (some (.Name x pos')) pos.line X.env = pure false := by rfl)
    (hf : X.fn x = true ∨ X.env.scope.names.lookup x = some .local := by first | exact .inl rfl | exact .inr rfl) : JSs M (.Assign [.Name x pos'] e pos :: rest) ρ t D := jss_cons (js_set i hN h hi hx hs hf)
theorem jss_setL (i : Nat) {pos' : Pos} (hN : X.N.Nodup) (h : JL M e ρ t fun ys t1 => JSs M rest (ρ.set i (.own ys)) t1 D) (hi : X.N[i]? = some x := by rfl) (hx : L2.Loc X.env.scope x := by exact Or.inl rfl) (hs : swapsWith e (some (.Name x pos')) pos.line X.env = pure false := by rfl)
    (hf : X.fn x = true ∨ X.env.scope.names.lookup x = some .local := by first | exact .inl rfl | exact .inr rfl) : JSs M (.Assign [.Name x pos'] e pos :: rest) ρ t D := jss_cons (js_setL i hN h hi hx hs hf)
/-- if c: a, where a hands back or goes on, then the rest -/
theorem jss_if (h : JT M c ρ t fun k t1 => (k = true → JSs M a ρ t1 { D with nx := fun ρ' t' => JSs M rest ρ' t' D }) ∧ (k = false → JSs M b ρ t1 { D with nx := fun ρ' t' => JSs M rest ρ' t' D })) : JSs M (.If c a b pos :: rest) ρ t D := jss_cons (js_if h)
/-- if c: a, and nothing otherwise -/
theorem jss_if0 (h : JT M c ρ t fun k t1 => (k = true → JSs M a ρ t1 { D with nx := fun ρ' t' => JSs M rest ρ' t' D }) ∧ (k = false → JSs M rest ρ t1 D)) : JSs M (.If c a [] pos :: rest) ρ t D := jss_cons (js_if (h.imp fun k t1 ⟨h1, h2⟩ => ⟨h1, fun e => jss_nil (h2 e)⟩))
theorem jss_ret (h : JD M e ρ t fun x t1 => D.rt (.d x) t1) : JSs M (.Return (some e) pos :: rest) ρ t D := jss_cons (js_ret h)
theorem jss_retL (h : JL M e ρ t fun x t1 => D.rt (.own x) t1) : JSs M (.Return (some e) pos :: rest) ρ t D := jss_cons (js_retL h)
end
/-! ### guards: which piece of syntax stands there -/
section
variable {X : Cx} {Wo : WO} {M : Md X.KK Wo} {ρ : List B} {t : Rs} {P : PyData → Rs → Prop} {T : Bool → Rs → Prop} {pos : Pos} {D : Dk}
theorem g_name {x : Str} (h : JD M (.Name x pos) ρ t P) : JD M (.Name x pos) ρ t P := h
theorem g_call {f : Expr} {es : List Expr} {ks : List Keyword} (h : JD M (.Call f es ks pos) ρ t P) : JD M (.Call f es ks pos) ρ t P := h
theorem g_sub {a b : Expr} (h : JD M (.Subscript a b pos) ρ t P) : JD M (.Subscript a b pos) ρ t P := h
theorem g_cmp {a : Expr} {os : List CmpOp} {bs : List Expr} (h : JD M (.Compare a os bs pos) ρ t P) : JD M (.Compare a os bs pos) ρ t P := h
theorem g_cmpT {a : Expr} {os : List CmpOp} {bs : List Expr} (h : JT M (.Compare a os bs pos) ρ t T) : JT M (.Compare a os bs pos) ρ t T := h
theorem g_callT {f : Expr} {es : List Expr} {ks : List Keyword} (h : JT M (.Call f es ks pos) ρ t T) : JT M (.Call f es ks pos) ρ t T := h
theorem jt_bop {op : BoolOp} {es : List Expr} (h : JW M (.BoolOp op es pos) ρ t T) : JT M (.BoolOp op es pos) ρ t T := jt_w h
theorem g_args {e : Expr} {es : List Expr} {P : List B → Rs → Prop} (h : JA M (e :: es) ρ t P) : JA M (e :: es) ρ t P := h
end
end Dl
end
section
set_option maxRecDepth 100000
set_option maxHeartbeats 4000000
namespace Dl
open PySem PySem.Spec PyProof.Rows L2

/-! ### a def of the text by its body, over data -/
section
variable {P : Program} {w : World} {K : PySem.W.Frag} {mg : Str → Option Value} {base : Heap}
/-- where a def's body stands -/
abbrev Xo (P : Program) (w : World) (K : PySem.W.Frag) (mg : Str → Option Value) (base : Heap) (N : List Str) (qual : Str) (st : Stmt) (f : Addr) (cdv : Value) (A : Around) (outer : List Env) (s : Shared) (H : Hp) (E : XK) : Cx :=
  (cxOf CX0 P w K mg base N qual (defScope st) f cdv A outer s H E).nox
theorem args_slot {K : KK} {Wo : WO} {M : Md K Wo} {G H : Hp} : ∀ {vs : List V} {bs : List B}, ArgAll M G vs bs → ∀ (i : Nat) (b : B), bs[i]? = some b → Slot M G H ((vs.map some)[i]?) b
  | _, _, .nil, i, b, e => by simp at e
  | _, _, .cons h r, 0, b, e => by
    cases e
    cases h with
    | d h => exact ⟨_, rfl, h⟩
    | rd => rfl
  | _, _, .cons h r, i + 1, b, e => args_slot r i b e
theorem args_own {K : KK} {Wo : WO} {M : Md K Wo} {G : Hp} : ∀ {vs : List V} {bs : List B}, ArgAll M G vs bs → ∀ (i : Nat) (xs : List PyData), bs[i]? ≠ some (.own xs)
  | _, _, .nil, i, b => by simp
  | _, _, .cons h r, 0, b => by
    intro e
    cases e
    cases h
  | _, _, .cons h r, i + 1, b => args_own r i b
theorem args_im {K : KK} {Wo : WO} {M : Md K Wo} {G : Hp} : ∀ {vs : List V} {bs : List B}, ArgAll M G vs bs → ∀ (i : Nat) (m : Im), bs[i]? ≠ some (.im m)
  | _, _, .nil, i, b => by simp
  | _, _, .cons h r, 0, b => by
    intro e
    cases e
    cases h
  | _, _, .cons h r, i + 1, b => args_im r i b
theorem args_new {K : KK} {Wo : WO} {M : Md K Wo} {G : Hp} : ∀ {vs : List V} {bs : List B}, ArgAll M G vs bs → ∀ (i : Nat) (b C : Addr) (fs : List (PyData × PyData)), bs[i]? ≠ some (.new b C fs)
  | _, _, .nil, i, b, _, _ => by simp
  | _, _, .cons h r, 0, b, _, _ => by
    intro e
    cases e
    cases h
  | _, _, .cons h r, i + 1, b, C, fs => args_new r i b C fs
theorem args_fx {K : KK} {Wo : WO} {M : Md K Wo} {G : Hp} : ∀ {vs : List V} {bs : List B}, ArgAll M G vs bs → ∀ (i : Nat) (f : Addr), bs[i]? ≠ some (.fx f)
  | _, _, .nil, i, b => by simp
  | _, _, .cons h r, 0, b => by
    intro e
    cases e
    cases h
  | _, _, .cons h r, i + 1, b => args_fx r i b
theorem sat_start {K : KK} {Wo : WO} {M : Md K Wo} {t : Rs} {n : Nat} {G H : Hp} {vs : List V} {bs : List B} {N : List Str} (k : Ok M t G H) (a : ArgAll M G vs bs) (hn : bs.length = n) : Sat (M.at_ G H) t G H (L2.start N vs) (bs ++ List.replicate (N.length - n) .un) where
  st := ⟨Same.refl G, fun _ _ _ _ e => e, fun _ e => e, fun _ _ e => e, k.sub, k.rd, k.tb⟩
  ok := ⟨k.sub, k.gr, k.rd, k.tb⟩
  len := by
    unfold L2.start
    rw [List.length_append, List.length_append, List.length_map, List.length_replicate, List.length_replicate, a.length, hn]
  at_ := fun i b e => by
    unfold L2.start
    have hl := a.length
    by_cases hi : i < bs.length
    · rw [List.getElem?_append_left hi] at e
      rw [List.getElem?_append_left (by rw [List.length_map]; omega)]
      have s := args_slot (H := H) a i b e
      cases b with
      | un => trivial
      | rd => exact s
      | d x => exact s
      | own xs => exact absurd e (args_own a i xs)
      | im m => exact absurd e (args_im a i m)
      | fx f => exact absurd e (args_fx a i f)
      | new b C fs => exact absurd e (args_new a i b C fs)
    · rw [List.getElem?_append_right (by omega), List.getElem?_replicate] at e
      split at e
      · cases e
        trivial
      · cases e
  dis := fun i j xs ys l _ e _ _ _ => by
    exfalso
    by_cases hi : i < bs.length
    · rw [List.getElem?_append_left hi] at e
      exact args_own a i xs e
    · rw [List.getElem?_append_right (by omega), List.getElem?_replicate] at e
      split at e <;> cases e
theorem okD {Wo : WO} {x qual : Str} {st : Stmt} {f : Addr} {fd : FuncData} {N ps : List Str} {k n : Nat} {S : List B → Rs → (B → Rs → Prop) → Prop} (F : Fun K x qual st f fd) (Sc : FnScope N ps (defScope st)) (hn : ps.length = n)
    (body : ∀ (cdv : Value) (A : Around) (outer : List Env) (s : Shared) (H : Hp) (E : XK) (M : Md (kkOf P w K) Wo) (bs : List B) (t : Rs) (Pt : B → Rs → Prop), Room k (Xo P w K mg base N qual st f cdv A outer s H E).A → bs.length = n → S bs t Pt →
      JSs (X := Xo P w K mg base N qual st f cdv A outer s H E) M (defBody st) (bs ++ List.replicate (N.length - n) .un) t { nx := fun _ t' => Pt (.d .none) t', rt := Pt }) : FnOk P w K mg base CX0 (k + 1) f fd ps (spD (kkOf P w K) Wo n S) := by
  refine F.ok Sc (fun vs H Q E h => ?_) (fun cdv A outer s H vs Q E hr h => ?_)
  · obtain ⟨M, G, bs, t, Pt, _, a, hl, _⟩ := h
    rw [a.length, hl, hn]
  · obtain ⟨M, G, bs, t, Pt, ok, a, hl, hS, q1, q2⟩ := h
    refine ⟨_, pssT, body cdv A outer s H E (M.at_ G H) bs t Pt hr hl hS (L2.start N vs) G H (sat_start ok a hl) _ ⟨fun σ' G' H' ρ' t' S' _ p => ?_, fun σ' G' H' ρ' t' _ _ p => p.elim, fun σ' G' H' ρ' t' _ _ p => p.elim, fun G' H' t' v x s' d p => ?_, fun G' H' t' l ws xs s' h0 g e d p => ?_⟩⟩
    · exact q1 G' H' .non .none t' ⟨S'.st.gg, S'.st.hh, S'.st.al, S'.st.fr, S'.st.sub, S'.st.rd, S'.st.tb⟩ .non p
    · exact q1 G' H' v x t' ⟨s'.gg, s'.hh, s'.al, s'.fr, s'.sub, s'.rd, s'.tb⟩ d p
    · exact q2 G' H' l ws xs t' ⟨s'.gg, s'.hh, s'.al, s'.fr, s'.sub, s'.rd, s'.tb⟩ h0 g e d p
theorem Fun.def_ {Wo : WO} {x qual y : Str} {st : Stmt} {f : Addr} {fd : FuncData} {ps : List Str} {k n : Nat} {S : List B → Rs → (B → Rs → Prop) → Prop} (F : Fun K x qual st f fd) (h : FnOk P w K mg base CX0 k f fd ps (spD (kkOf P w K) Wo n S)) (hm : mg y = some (.ref f)) (b : Binds K fd ps []) : Def P w K Wo mg base k y n S := ⟨f, fd, ps, h, hm, F.kp, b⟩
theorem Def.imp {Wo : WO} {k n : Nat} {x : Str} {S S' : List B → Rs → (B → Rs → Prop) → Prop} (D : Def P w K Wo mg base k x n S) (h : ∀ bs t Q, S' bs t Q → S bs t Q) : Def P w K Wo mg base k x n S' := by
  obtain ⟨f, fd, ps, F, hm, kp, hb⟩ := D.ex
  exact ⟨f, fd, ps, F.imp fun vs H Q E ⟨M, G, bs, t, Pt, a, b, c, d, e⟩ => ⟨M, G, bs, t, Pt, a, b, c, h _ _ _ d, e⟩, hm, kp, hb⟩
theorem Def.mono {Wo : WO} {k j n : Nat} {x : Str} {S : List B → Rs → (B → Rs → Prop) → Prop} (D : Def P w K Wo mg base k x n S) (h : k ≤ j) : Def P w K Wo mg base j x n S := by
  obtain ⟨f, fd, ps, F, hm, kp, hb⟩ := D.ex
  exact ⟨f, fd, ps, F.mono h, hm, kp, hb⟩
end

/-! ### repr of data, where nothing is being shown -/
section
variable {X : Cx}
def rRepr (K : KK) : List V → Hp → VK → Prop := fun xs H Q => ∃ v d, xs = [v] ∧ Dp K H v d ∧ d.showable = true ∧ d.hasDict = false ∧ d.depth ≤ 64 ∧ d.shown.length ≤ sizeLine ∧ (∀ i, d = .int i → i.natAbs.log2 < 1920) ∧ Q (.str d.shown) H
theorem cr_repr {k : Nat} (hr : Room k X.A) (hg : X.A.guards = some []) : CallR X (.builtin "repr") (rRepr X.KK) := by
  intro pins s σ H xs us Q I r h
  obtain ⟨v, d, rfl, dp, h1, h2, h3, h4, h5, q⟩ := h
  obtain ⟨u, rfl, rv⟩ := vals1 r
  obtain ⟨as, rd⟩ := Dp.reads I d v u dp rv
  have hu := hr.un
  cases dp with
  | non =>
    cases rv
    exact PySem.P.repr_of_none ⟨.str _, H, I.tok _, ⟨_, rfl⟩, q⟩
  | bl b =>
    cases rv
    exact PySem.P.repr_of_bool ⟨.str _, H, I.tok _, ⟨_, rfl⟩, by cases b <;> exact q⟩
  | int i =>
    obtain ⟨t, rfl⟩ := rv
    exact PySem.P.repr_of_int (h5 i rfl) ⟨.str _, H, I.tok _, ⟨_, rfl⟩, q⟩
  | str z =>
    obtain ⟨t, rfl⟩ := rv
    exact PySem.P.repr_of_str ⟨.str _, H, I.tok _, ⟨_, rfl⟩, q⟩ h4
  | lst e f =>
    cases rv
    exact PySem.repr_of_reads' rd h1 (fun z => by rw [h2] at z; cases z) hg (by omega) (fun _ _ e => e) (fun h' u tk hk => ⟨.str _, H, I.kept hk, ⟨_, rfl⟩, q⟩) h4
  | tup e f =>
    cases rv
    exact PySem.repr_of_reads' rd h1 (fun z => by rw [h2] at z; cases z) hg (by omega) (fun _ _ e => e) (fun h' u tk hk => ⟨.str _, H, I.kept hk, ⟨_, rfl⟩, q⟩) h4
end
end Dl
end
section
set_option maxRecDepth 100000
set_option maxHeartbeats 4000000
namespace Dl
open PySem PySem.Spec PyProof.Rows L2

/-! ### the reader [cells, next, rest, draws] -/
def W4T (T : List (Addr × Str)) : WO where
  R := fun t G o => ∃ c, o = .lst [.ref c, .int t.nxt, .int t.rest, .int t.draws] ∧ G c = some (.lst (t.ns.map V.int))
  T := T
  rl := fun ⟨_, h, _⟩ => ⟨_, h⟩
abbrev W4 : WO := W4T []
theorem w4_up {T : List (Addr × Str)} {t : Rs} {G G' : Hp} {o : HO} (e : Same G G') (h : W4T T t G o) : W4T T t G' o := by
  obtain ⟨c, h1, h2⟩ := h
  exact ⟨c, h1, e _ _ h2⟩
def Rs.fld (t : Rs) : Int → Int
  | 1 => t.nxt
  | 2 => t.rest
  | _ => t.draws
def Rs.put (t : Rs) (k v : Int) : Rs := match k with
  | 1 => { t with nxt := v }
  | 2 => { t with rest := v }
  | _ => { t with draws := v }
theorem Sat.rdSet {K : KK} {Wo : WO} {M : Md K Wo} {t t' : Rs} {G H : Hp} {σ : L2.St} {ρ : List B} {o : HO} (S : Sat M t G H σ ρ) (w : Wo t' G o) : Sat M t' G (upd H M.r o) σ ρ := by
  have sub : Same G (upd H M.r o) := fun b u z => by
    rw [upd_ne (ne_of_none z S.ok.gr)]
    exact S.ok.sub b u z
  have tb := And.intro (tabs_upd (l := M.r) (o := o) S.ok.tb.1 (.inr (.inl (by
    obtain ⟨o1, q1, w1⟩ := S.ok.rd
    obtain ⟨vs, rfl⟩ := Wo.rl w1
    exact ⟨vs, q1⟩)))) S.ok.tb.2
  refine ⟨⟨S.st.gg, fun b u nb nt z => ?_, fun b e => (by
    by_cases hb : b = M.r
    · rw [hb, upd_same]; simp
    · rw [upd_ne hb]; exact S.st.al b e), S.st.fr, sub, ⟨o, upd_same, w⟩, tb⟩, ⟨sub, S.ok.gr, ⟨o, upd_same, w⟩, tb⟩, S.len, fun j b e => ?_, S.dis⟩
  · rw [upd_ne nb]
    exact S.st.hh b u nb nt z
  · have s := S.at_ j b e
    cases b with
    | un => trivial
    | rd => exact s
    | fx f => exact s
    | d x => exact s
    | own xs =>
      obtain ⟨l, vs, e1, n, g, h, h0, d⟩ := s
      refine ⟨l, vs, e1, n, g, ?_, h0, d⟩
      rw [upd_ne n]
      exact h
    | im m => exact s
    | new a C fs =>
      obtain ⟨dx, vs, e1, n, g, h, h0, d⟩ := s
      refine ⟨dx, vs, e1, n, g, ?_, h0, d⟩
      rw [upd_ne n]
      exact h
section
variable {X : Cx} {T : List (Addr × Str)} {M : Md X.KK (W4T T)} {ρ : List B} {t : Rs} {e : Expr} {P : PyData → Rs → Prop} {pos apos p cp : Pos} {D : Dk} {x : Str} {j : Nat} {rest : List Stmt}
theorem jd_rdN (i : Nat) {k : Int} (hk : k = 1 ∨ k = 2 ∨ k = 3) (hr : ρ[i]? = some .rd) (q : P (.int (t.fld k)) t) (hN : X.N[i]? = some x := by rfl) (hv : Vis X.env.scope x := by first | exact Or.inl rfl | exact Or.inr (Or.inl rfl) | exact Or.inr (Or.inr rfl))
    (hd : (x == ("__debug__" : Str)) = false := by decide) (hcd : (x == ("__classdict__" : Str)) = false := by decide) : JD M (.Subscript (.Name x p) (.Constant (.int k) j cp) pos) ρ t P :=
  jd_of (pe_ix ix_list (pv i hN hv hd hcd) pe_int (fun _ _ => rfl)) fun σ G H S Q r => by
    obtain ⟨o, ho, c, eo, hc⟩ := S.ok.rd
    subst eo
    refine ⟨.ref M.r, S.at_ i _ hr, M.r, _, k, .int (t.fld k), rfl, rfl, .inl (.inl ho), ?_, r G H _ _ t S.ok.refl (.int _) q⟩
    rcases hk with rfl | rfl | rfl <;> rfl
theorem jd_rdC (i : Nat) (hr : ρ[i]? = some .rd) (q : P (.list (t.ns.map PyData.int)) t) (hN : X.N[i]? = some x := by rfl) (hv : Vis X.env.scope x := by first | exact Or.inl rfl | exact Or.inr (Or.inl rfl) | exact Or.inr (Or.inr rfl))
    (hd : (x == ("__debug__" : Str)) = false := by decide) (hcd : (x == ("__classdict__" : Str)) = false := by decide) : JD M (.Subscript (.Name x p) (.Constant (.int 0) j cp) pos) ρ t P :=
  jd_of (pe_ix ix_list (pv i hN hv hd hcd) pe_int (fun _ _ => rfl)) fun σ G H S Q r => by
    obtain ⟨o, ho, c, eo, hc⟩ := S.ok.rd
    subst eo
    exact ⟨.ref M.r, S.at_ i _ hr, M.r, _, 0, .ref c, rfl, rfl, .inl (.inl ho), rfl, r G H _ _ t S.ok.refl (.lst hc (DeAll.ofInts _)) q⟩
theorem js_rdSet (i : Nat) {k : Int} (hk : k = 1 ∨ k = 2 ∨ k = 3) (hr : ρ[i]? = some .rd) (h : JD M e ρ t fun y t1 => ∃ v, y = .int v ∧ D.nx ρ (t1.put k v))
    (ha : ∀ v, assign (.Subscript (.Name x p) (.Constant (.int k) j cp) apos) X.env v = (do
      let ov ← holding [v] (eval (.Name x p) X.env)
      let iv ← holding [v, ov] (eval (.Constant (.int k) j cp) X.env)
      standAt apos
      holding [v, ov, iv] (setItem ov iv v)
      release [v, ov, iv] []) := by intro _; rfl)
    (hN : X.N[i]? = some x := by rfl) (hv : Vis X.env.scope x := by first | exact Or.inl rfl | exact Or.inr (Or.inl rfl) | exact Or.inr (Or.inr rfl)) (hd : (x == ("__debug__" : Str)) = false := by decide) (hcd : (x == ("__classdict__" : Str)) = false := by decide)
    (hs : swapsWithSole [.Subscript (.Name x p) (.Constant (.int k) j cp) apos] e pos.line X.env = pure false := by rfl) (hw : swappedStores [.Subscript (.Name x p) (.Constant (.int k) j cp) apos] e X.env = pure none := by rfl)
    (h1 : (assignEach [.Subscript (.Name x p) (.Constant (.int k) j cp) apos] X.env).map (·.2) = [assign (.Subscript (.Name x p) (.Constant (.int k) j cp) apos) X.env] := by rfl) : JS M (.Assign [.Subscript (.Name x p) (.Constant (.int k) j cp) apos] e pos) ρ t D :=
  js_of (ps_asg peT (pg_sub (pv i hN hv hd hcd) pe_int set_list ha) hs hw h1) fun σ G H S E F => h σ G H S _ fun G1 H1 v y t1 s1 d1 ⟨z, ez, q⟩ => by
    subst ez
    have S1 := S.step s1
    obtain ⟨o, ho, c, eo, hc⟩ := S1.ok.rd
    subst eo
    rw [d1.intE]
    have go : ∀ (ws : List V) (n : Nat), ixN 4 k = some n → ([V.ref c, .int t1.nxt, .int t1.rest, .int t1.draws].set n (.int z)) = ws → W4 (t1.put k z) G1 (.lst ws) → gSub (tVar i) (tC (.int k)) rSetL (.int z) σ H1 E.nx := fun ws n e1 e2 w =>
      ⟨.ref M.r, S1.at_ i _ hr, M.r, _, k, n, rfl, rfl, ho, e1, by
        rw [e2]
        exact F.nx σ G1 _ ρ _ (S1.rdSet w) s1.gg q⟩
    rcases hk with rfl | rfl | rfl
    · exact go _ 1 rfl rfl ⟨c, rfl, hc⟩
    · exact go _ 2 rfl rfl ⟨c, rfl, hc⟩
    · exact go _ 3 rfl rfl ⟨c, rfl, hc⟩
theorem jss_rdSet (i : Nat) {k : Int} (hk : k = 1 ∨ k = 2 ∨ k = 3) (hr : ρ[i]? = some .rd) (h : JD M e ρ t fun y t1 => ∃ v, y = .int v ∧ JSs M rest ρ (t1.put k v) D)
    (ha : ∀ v, assign (.Subscript (.Name x p) (.Constant (.int k) j cp) apos) X.env v = (do
      let ov ← holding [v] (eval (.Name x p) X.env)
      let iv ← holding [v, ov] (eval (.Constant (.int k) j cp) X.env)
      standAt apos
      holding [v, ov, iv] (setItem ov iv v)
      release [v, ov, iv] []) := by intro _; rfl)
    (hN : X.N[i]? = some x := by rfl) (hv : Vis X.env.scope x := by first | exact Or.inl rfl | exact Or.inr (Or.inl rfl) | exact Or.inr (Or.inr rfl)) (hd : (x == ("__debug__" : Str)) = false := by decide) (hcd : (x == ("__classdict__" : Str)) = false := by decide)
    (hs : swapsWithSole [.Subscript (.Name x p) (.Constant (.int k) j cp) apos] e pos.line X.env = pure false := by rfl) (hw : swappedStores [.Subscript (.Name x p) (.Constant (.int k) j cp) apos] e X.env = pure none := by rfl)
    (h1 : (assignEach [.Subscript (.Name x p) (.Constant (.int k) j cp) apos] X.env).map (·.2) = [assign (.Subscript (.Name x p) (.Constant (.int k) j cp) apos) X.env] := by rfl) : JSs M (.Assign [.Subscript (.Name x p) (.Constant (.int k) j cp) apos] e pos :: rest) ρ t D := jss_cons (js_rdSet i hk hr h ha hN hv hd hcd hs hw h1)
end
/-! ### data that may be compared -/
theorem lay_ints : ∀ ns : List Int, PyData.canLayAll0 (ns.map PyData.int) = true
  | [] => by simp [PyData.canLayAll0]
  | n :: ns => by simp [PyData.canLayAll0, PyData.canLay0, lay_ints ns]
theorem dep_ints : ∀ ns : List Int, PyData.depthAll (ns.map PyData.int) ≤ 1
  | [] => by simp [PyData.depthAll]
  | n :: ns => by
    have h := dep_ints ns
    simp only [List.map_cons, PyData.depthAll, PyData.depth]
    omega
theorem shaped_of {d : PyData} (h : d.canLay0 = true) (h2 : d.depth ≤ 64) : SeqAt.shaped d = true := by
  show (d.canLay0 && decide (d.depth ≤ 64)) = true
  rw [h, decide_eq_true h2]
  rfl
theorem shaped_ints (ns : List Int) : SeqAt.shaped (.list (ns.map PyData.int)) = true := by
  refine shaped_of (by simp only [PyData.canLay0]; exact lay_ints ns) ?_
  have h := dep_ints ns
  simp only [PyData.depth]
  omega
theorem shaped_intsT (ns : List Int) : SeqAt.shaped (.tuple (ns.map PyData.int)) = true := by
  refine shaped_of (by simp only [PyData.canLay0]; exact lay_ints ns) ?_
  have h := dep_ints ns
  simp only [PyData.depth]
  omega
end Dl
end
section
set_option maxRecDepth 100000
set_option maxHeartbeats 4000000
namespace Dl
open PySem PySem.Spec PyProof.Rows L2

/-! ### plain data and its size -/
mutual
def Fin : PyData → Prop
  | .none => True
  | .bool _ => True
  | .int i => i.natAbs < 2 ^ 256
  | .str y => ∀ c ∈ y.cps.toList, c < 128
  | .list xs => FinA xs
  | .tuple xs => FinA xs
  | .dict _ => False
def FinA : List PyData → Prop
  | [] => True
  | x :: xs => Fin x ∧ FinA xs
end
mutual
def sz : PyData → Nat
  | .none => 1
  | .bool _ => 1
  | .int _ => 1
  | .str y => 1 + y.length
  | .list xs => 1 + szA xs
  | .tuple xs => 1 + szA xs
  | .dict _ => 1
def szA : List PyData → Nat
  | [] => 0
  | x :: xs => sz x + szA xs
end
theorem FinA_iff : ∀ {xs : List PyData}, FinA xs ↔ ∀ x ∈ xs, Fin x
  | [] => by simp [FinA]
  | x :: xs => by
    rw [FinA, FinA_iff]
    simp
theorem FinA_app {xs ys : List PyData} : FinA (xs ++ ys) ↔ FinA xs ∧ FinA ys := by
  rw [FinA_iff, FinA_iff, FinA_iff]
  constructor
  · intro h
    exact ⟨fun x hx => h x (List.mem_append_left _ hx), fun x hx => h x (List.mem_append_right _ hx)⟩
  · rintro ⟨h1, h2⟩ x hx
    rcases List.mem_append.mp hx with h | h
    · exact h1 x h
    · exact h2 x h
theorem szA_app : ∀ (xs ys : List PyData), szA (xs ++ ys) = szA xs + szA ys
  | [], ys => by simp [szA]
  | x :: xs, ys => by
    rw [List.cons_append, szA, szA, szA_app xs ys]
    omega
theorem sz_pos (x : PyData) : 1 ≤ sz x := by
  cases x <;> simp only [sz] <;> omega
theorem len_szA : ∀ xs : List PyData, xs.length ≤ szA xs
  | [] => Nat.zero_le _
  | x :: xs => by
    have h1 := len_szA xs
    have h2 := sz_pos x
    rw [List.length_cons, szA]
    omega
theorem szA_mem : ∀ {xs : List PyData} {x : PyData}, x ∈ xs → sz x ≤ szA xs
  | [], _, h => absurd h List.not_mem_nil
  | y :: xs, x, h => by
    rw [szA]
    rcases List.mem_cons.mp h with rfl | h
    · omega
    · have := szA_mem h
      omega
theorem dep_mem : ∀ {xs : List PyData} {x : PyData}, x ∈ xs → x.depth ≤ PyData.depthAll xs
  | [], _, h => absurd h List.not_mem_nil
  | y :: xs, x, h => by
    simp only [PyData.depthAll]
    rcases List.mem_cons.mp h with rfl | h
    · omega
    · have := dep_mem h
      omega
theorem depA_le : ∀ {xs : List PyData} {n : Nat}, (∀ x ∈ xs, x.depth ≤ n) → PyData.depthAll xs ≤ n
  | [], n, _ => by simp only [PyData.depthAll]; omega
  | y :: xs, n, h => by
    simp only [PyData.depthAll]
    have h1 := h y List.mem_cons_self
    have h2 := depA_le fun x hx => h x (List.mem_cons_of_mem _ hx)
    omega
mutual
theorem Fin.lay : ∀ x : PyData, Fin x → x.canLay0 = true
  | .none, _ => by simp only [PyData.canLay0]
  | .bool _, _ => by simp only [PyData.canLay0]
  | .int _, _ => by simp only [PyData.canLay0]
  | .str y, h => by
    simp only [PyData.canLay0, PyData.strOk, Array.all_eq_true]
    intro i hi
    have := h y.cps[i] (by simp)
    exact decide_eq_true (by omega)
  | .list xs, h => by
    simp only [PyData.canLay0]
    exact FinA.lay xs h
  | .tuple xs, h => by
    simp only [PyData.canLay0]
    exact FinA.lay xs h
  | .dict _, h => h.elim
theorem FinA.lay : ∀ xs : List PyData, FinA xs → PyData.canLayAll0 xs = true
  | [], _ => by simp only [PyData.canLayAll0]
  | x :: xs, h => by
    simp only [PyData.canLayAll0]
    rw [Fin.lay x h.1, FinA.lay xs h.2]
    rfl
end
mutual
theorem Fin.show_ : ∀ x : PyData, Fin x → x.showable = true
  | .none, _ => by simp only [PyData.showable]
  | .bool _, _ => by simp only [PyData.showable]
  | .int i, h => by
    simp only [PyData.showable]
    have h' : i.natAbs < 2 ^ 256 := h
    refine decide_eq_true ?_
    by_cases e : i.natAbs = 0
    · rw [e]
      decide
    · have := (Nat.log2_lt e).mpr h'
      omega
  | .str y, _ => by simp only [PyData.showable]
  | .list xs, h => by
    simp only [PyData.showable]
    exact FinA.show_ xs h
  | .tuple xs, h => by
    simp only [PyData.showable]
    exact FinA.show_ xs h
  | .dict _, h => h.elim
theorem FinA.show_ : ∀ xs : List PyData, FinA xs → PyData.showableAll xs = true
  | [], _ => by simp only [PyData.showableAll]
  | x :: xs, h => by
    simp only [PyData.showableAll]
    rw [Fin.show_ x h.1, FinA.show_ xs h.2]
    rfl
end
theorem len_app (a b : Str) : (a ++ b).length = a.length + b.length := strLen_append a b
theorem listText_len (ts : List Str) : (listText ts).length ≤ piled ts + 2 := by
  cases ts with
  | nil => decide
  | cons t r =>
    have h := textFrom_length_pos r 1 (("[" : Str) ++ (if (0 : Nat) > 0 then ", " else "" : String) ++ t) (Nat.succ_pos 0)
    have e : ((("[" : Str) ++ (if (0 : Nat) > 0 then ", " else "" : String) ++ t)).length = 1 + t.length := by
      rw [len_app, len_app]
      rfl
    have hX : (listText (t :: r)).length = (textFrom 1 (("[" : Str) ++ (if (0 : Nat) > 0 then ", " else "" : String) ++ t) r).length + 1 := by
      show (textFrom 0 "[" (t :: r) ++ "]").length = _
      rw [len_app]
      rfl
    rw [hX, h, e, piled_cons]
    omega
theorem tupleText_len (ts : List Str) : (tupleText ts).length ≤ piled ts + 3 := by
  unfold tupleText
  rw [len_app, len_app]
  have e1 : ((("(" : String) : Str)).length = 1 := rfl
  have e3 : (((if ts.length == 1 then ",)" else ")" : String) : Str)).length ≤ 2 := by split <;> decide
  rw [e1]
  by_cases h : ts = []
  · subst h
    decide
  · have := join_length_add ts h
    omega
mutual
theorem Fin.len : ∀ x : PyData, Fin x → x.shown.length + 2 ≤ 300 * sz x
  | .none, _ => by
    simp only [PyData.shown, sz]
    decide
  | .bool b, _ => by
    simp only [PyData.shown, sz]
    cases b <;> decide
  | .int i, h => by
    simp only [PyData.shown, sz]
    have h' : i.natAbs < 2 ^ 256 := h
    have hl : i.natAbs.log2 < 256 := by
      by_cases e : i.natAbs = 0
      · rw [e]
        decide
      · exact (Nat.log2_lt e).mpr h'
    have := int_text_length_le (a := i) (by decide : 0 < 256) hl
    show (Str.ofString (toString i)).length + 2 ≤ _
    rw [PySem.ofString_length]
    omega
  | .str y, h => by
    simp only [PyData.shown, sz]
    have := StrLaws.reprText_len y fun c hc => Nat.lt_of_lt_of_le (h c hc) (by decide)
    omega
  | .list xs, h => by
    simp only [PyData.shown, sz]
    have h1 := listText_len (PyData.shownAll xs)
    have h2 := FinA.len xs h
    omega
  | .tuple xs, h => by
    simp only [PyData.shown, sz]
    have h1 := tupleText_len (PyData.shownAll xs)
    have h2 := FinA.len xs h
    omega
  | .dict _, h => h.elim
theorem FinA.len : ∀ xs : List PyData, FinA xs → piled (PyData.shownAll xs) ≤ 300 * szA xs
  | [], _ => by
    simp only [PyData.shownAll, szA]
    decide
  | x :: xs, h => by
    simp only [PyData.shownAll, szA]
    rw [piled_cons]
    have h1 := Fin.len x h.1
    have h2 := FinA.len xs h.2
    omega
end
end Dl
end
section
set_option maxRecDepth 100000
set_option maxHeartbeats 4000000
namespace Dl
open PySem PySem.Spec PyProof.Rows L2

/-! ### names of the module -/
section
variable {X : Cx} {Wo : WO} {M : Md X.KK Wo} {ρ : List B} {t : Rs} {P : PyData → Rs → Prop} {a b e : Expr} {es : List Expr} {pos p : Pos} {x : Str}
theorem jd_glob {u : Value} {v : V} {d : PyData} (hm : X.mg x = some u) (hv : RelV v u) (hd : ∀ G, De X.KK G v d) (q : P d t) (hg : Gl X x := by rfl) (h : (x == Str.ofString "__debug__") = false := by decide) : JD M (.Name x p) ρ t P :=
  jd_of (pe_glob hg hm hv h) fun σ G H S Q r => r G H v d t S.ok.refl (hd G) q
/-- d[k], d a written dict with text keys -/
theorem jd_kdict {y : Str} {p2 : Pos} {ad : Addr} (hm : X.mg y = some (.ref ad)) (h : JD M b ρ t fun z t1 => ∃ k v, z = .str k ∧ KDct X.KK X.w ad k (.int v) ∧ P (.int v) t1)
    (hg : Gl X y := by rfl) (h2 : (y == Str.ofString "__debug__") = false := by decide) (hp : PlainIx b := by intro _ _; rfl) : JD M (.Subscript (.Name y p2) b pos) ρ t P :=
  jd_of (pe_ix ix_kdict (pe_glob (v := .ref ad) hg hm rfl h2) peT hp) fun σ G H S Q r => h σ G H S _ fun G1 H1 v z t1 s1 d1 ⟨k, i, ez, kd, q⟩ => by
    subst ez
    exact ⟨ad, k, .int i, rfl, d1.strE, kd, r G1 H1 _ _ t1 s1 (.int i) q⟩

/-! ### x in t, t a tuple of data -/
theorem op_inU (hu : X.A.units + 65 < cLine) : OpR X (compareOp .In) (rInU X.KK false) := by
  intro pins s σ H x y v u Q I rx ry h
  obtain ⟨d, ds, hd, he, sd, se, q⟩ := h
  obtain ⟨as, r1⟩ := Dp.reads I d x v hd rx
  obtain ⟨bs, r2⟩ := Dp.reads I (.tuple ds) y u he ry
  have lay : PyData.canLayAll0 ds = true := by
    have z := SeqAt.canLay_of_shaped se
    simpa only [PyData.canLay0] using z
  have dd : d.depth ≤ 64 := by
    have z : (d.canLay0 && decide (d.depth ≤ 64)) = true := sd
    rw [Bool.and_eq_true] at z
    exact of_decide_eq_true z.2
  exact SeqAt.in_tuple_reads r2 r1 lay (SeqAt.canLay_of_shaped sd) (by omega) ⟨.bl _, H, I, rfl, q⟩
theorem op_niU (hu : X.A.units + 65 < cLine) : OpR X (compareOp .NotIn) (rInU X.KK true) := by
  intro pins s σ H x y v u Q I rx ry h
  obtain ⟨d, ds, hd, he, sd, se, q⟩ := h
  obtain ⟨as, r1⟩ := Dp.reads I d x v hd rx
  obtain ⟨bs, r2⟩ := Dp.reads I (.tuple ds) y u he ry
  have lay : PyData.canLayAll0 ds = true := by
    have z := SeqAt.canLay_of_shaped se
    simpa only [PyData.canLay0] using z
  have dd : d.depth ≤ 64 := by
    have z : (d.canLay0 && decide (d.depth ≤ 64)) = true := sd
    rw [Bool.and_eq_true] at z
    exact of_decide_eq_true z.2
  exact SeqAt.notIn_tuple_reads r2 r1 lay (SeqAt.canLay_of_shaped sd) (by omega) ⟨.bl _, H, I, rfl, q⟩
theorem bn_inU {K : KK} {M : Md K Wo} {neg : Bool} {d : PyData} {ds : List PyData} (h1 : SeqAt.shaped d = true) (h2 : SeqAt.shaped (.tuple ds) = true) (p : P (.bool (if neg then !ds.any fun z => PyData.eqv z d else ds.any fun z => PyData.eqv z d)) t) : Bn M (rInU K neg) d (.tuple ds) t P :=
  fun G H v w k hv hw Q q => ⟨d, ds, De.dpS h1 (De.up k.sub _ _ hv), De.dpS h2 (De.up k.sub _ _ hw), h1, h2, keep k q (.bl _) p⟩
theorem jd_inU {k : Nat} (hr : Room k X.A) (h : JD M a ρ t fun x t1 => JD M b ρ t1 fun y t2 => ∃ ys, y = .tuple ys ∧ SeqAt.shaped x = true ∧ SeqAt.shaped (.tuple ys) = true ∧ P (.bool (ys.any fun z => PyData.eqv z x)) t2) (hm : behindInMarks .In b = false := by rfl) : JD M (.Compare a [.In] [b] pos) ρ t P :=
  jd_cmp (op_inU (by have := hr.un; omega)) hm (h.imp fun x _ h1 => h1.imp fun y _ ⟨ys, e, c, d, q⟩ => by
    subst e
    exact bn_inU c d q)
theorem jt_inU {P : Bool → Rs → Prop} {k : Nat} (hr : Room k X.A) (h : JD M a ρ t fun x t1 => JD M b ρ t1 fun y t2 => ∃ ys, y = .tuple ys ∧ SeqAt.shaped x = true ∧ SeqAt.shaped (.tuple ys) = true ∧ P (ys.any fun z => PyData.eqv z x) t2) (hm : behindInMarks .In b = false := by rfl) : JT M (.Compare a [.In] [b] pos) ρ t P :=
  jt_cmp (op_inU (by have := hr.un; omega)) hm (h.imp fun x _ h1 => h1.imp fun y _ ⟨ys, e, c, d, q⟩ => by
    subst e
    exact bn_inU c d ⟨_, rfl, q⟩)
theorem jd_niU {k : Nat} (hr : Room k X.A) (h : JD M a ρ t fun x t1 => JD M b ρ t1 fun y t2 => ∃ ys, y = .tuple ys ∧ SeqAt.shaped x = true ∧ SeqAt.shaped (.tuple ys) = true ∧ P (.bool (!ys.any fun z => PyData.eqv z x)) t2) (hm : behindInMarks .NotIn b = false := by rfl) : JD M (.Compare a [.NotIn] [b] pos) ρ t P :=
  jd_cmp (op_niU (by have := hr.un; omega)) hm (h.imp fun x _ h1 => h1.imp fun y _ ⟨ys, e, c, d, q⟩ => by
    subst e
    exact bn_inU c d q)
theorem jt_niU {P : Bool → Rs → Prop} {k : Nat} (hr : Room k X.A) (h : JD M a ρ t fun x t1 => JD M b ρ t1 fun y t2 => ∃ ys, y = .tuple ys ∧ SeqAt.shaped x = true ∧ SeqAt.shaped (.tuple ys) = true ∧ P (!ys.any fun z => PyData.eqv z x) t2) (hm : behindInMarks .NotIn b = false := by rfl) : JT M (.Compare a [.NotIn] [b] pos) ρ t P :=
  jt_cmp (op_niU (by have := hr.un; omega)) hm (h.imp fun x _ h1 => h1.imp fun y _ ⟨ys, e, c, d, q⟩ => by
    subst e
    exact bn_inU c d ⟨_, rfl, q⟩)
/-- one sign in a text -/
theorem jd_inS (h : JD M a ρ t fun x t1 => ∃ c, x = .str ⟨#[c]⟩ ∧ JD M b ρ t1 fun y t2 => ∃ z, y = .str z ∧ P (.bool (decide (c ∈ z.cps.toList))) t2) (hm : behindInMarks .In b = false := by rfl) : JD M (.Compare a [.In] [b] pos) ρ t P :=
  jd_cmp op_in_sign hm (h.imp fun x _ ⟨c, e, h1⟩ => h1.imp fun y _ ⟨z, e2, q⟩ => by
    subst e e2
    exact fun G H v w k hv hw Q r => ⟨c, z, hv.strE, hw.strE, keep k r (.bl _) q⟩)
/-- t < u, tuples of ints -/
theorem jd_ltT {k : Nat} (hr : Room k X.A) (h : JD M a ρ t fun x t1 => ∃ ns : List Int, x = .tuple (ns.map PyData.int) ∧ JD M b ρ t1 fun y t2 => ∃ ms : List Int, y = .tuple (ms.map PyData.int) ∧ P (.bool (HT.lexLt ns ms)) t2) : JD M (.Compare a [.Lt] [b] pos) ρ t P :=
  jd_cmp (op_ltT hr.units0) (nomark _) (h.imp fun x _ ⟨ns, e, h1⟩ => h1.imp fun y _ ⟨ms, e2, q⟩ => by
    subst e e2
    intro G H v w k hv hw Q r
    obtain ⟨a1, vs, rfl, st, da⟩ := hv.tupE
    obtain ⟨a2, ws, rfl, st2, da2⟩ := hw.tupE
    rw [da.ints] at st
    rw [da2.ints] at st2
    exact ⟨a1, a2, ns, ms, rfl, rfl, sqt_up k.sub st, sqt_up k.sub st2, keep k r (.bl _) q⟩)

/-! ### a star in a display -/
theorem ja_star {st : Pos} {P : List B → Rs → Prop} (h : JD M e ρ t fun x t1 => ∃ xs, (x = .tuple xs ∨ x = .list xs) ∧ JA M es ρ t1 fun bs t2 => P (xs.map B.d ++ bs) t2)
    (hs : starEach (.Starred e st :: es) X.env = (true, eval e X.env) :: starEach es X.env := by rfl) : JA M (.Starred e st :: es) ρ t P :=
  ja_of (StX.pa_star peT paT hs) fun σ G H S Q q => h σ G H S _ fun G1 H1 v x t1 s1 d1 ⟨xs, ex, h1⟩ => by
    have args : ∀ {G2 : Hp} {vs : List V} {xs : List PyData}, DeAll X.KK G2 vs xs → ∀ {ws : List V} {bs : List B}, ArgAll M G2 ws bs → ArgAll M G2 (vs ++ ws) (xs.map B.d ++ bs) := by
      intro G2 vs xs da ws bs r
      induction xs generalizing vs with
      | nil =>
        cases da
        exact r
      | cons y ys ih =>
        cases da with
        | cons d da => exact .cons (.d d) (ih da)
    rcases ex with e1 | e1
    · subst e1
      obtain ⟨a1, vs, rfl, st, da⟩ := d1.tupE
      exact ⟨a1, vs, rfl, .inl (sqt_up (S.step s1).ok.sub st), h1 σ G1 H1 (S.step s1) _ fun G2 H2 ws bs t2 s2 ar p => q G2 H2 _ _ t2 (s1.trans s2) (args (DeAll.up s2.gg _ _ da) ar) p⟩
    · subst e1
      obtain ⟨a1, vs, rfl, st, da⟩ := d1.lstE
      exact ⟨a1, vs, rfl, .inr (.inl (.inl ((S.step s1).ok.sub _ _ st))), h1 σ G1 H1 (S.step s1) _ fun G2 H2 ws bs t2 s2 ar p => q G2 H2 _ _ t2 (s1.trans s2) (args (DeAll.up s2.gg _ _ da) ar) p⟩
end
end Dl
end
section
set_option maxRecDepth 100000
set_option maxHeartbeats 4000000
namespace Dl
open PySem PySem.Spec PyProof.Rows L2

/-! ### {'a': 'b', ..}.get(k), the dict written on the spot -/
def cPairs (kvs : List (Str × Str)) : List (TE × TE) := kvs.map fun p => (tC (.str p.1), tC (.str p.2))
theorem tPairs_c {σ : L2.St} {H : Hp} : ∀ (kvs : List (Str × Str)) (Q : List (V × V) → Hp → Prop), Q (kvs.map fun p => (.str p.1, .str p.2)) H → tPairs (cPairs kvs) σ H Q
  | [], Q, h => h
  | p :: r, Q, h => tPairs_c r (fun ps H' => Q ((.str p.1, .str p.2) :: ps) H') h
def getS (kvs : List (Str × Str)) (s : Str) : Option Str := (kvs.find? fun p => decide (p.1 = s)).map (·.2)
def optD : Option Str → PyData
  | some s => .str s
  | none => .none
section
variable {X : Cx} {Wo : WO} {M : Md X.KK Wo} {ρ : List B} {t : Rs} {P : PyData → Rs → Prop} {d e : Expr} {cpos apos : Pos}
theorem jd_dget {k : Nat} (kvs : List (Str × Str)) (hr : Room k X.A) (hd : PE X d (tDisp (cPairs kvs))) (hn : kvs.length ≤ 15) (hm : mergeK [] (kvs.map fun p => (Sum.inr p.1, V.str p.2)) = kvs.map fun p => (Sum.inr p.1, V.str p.2))
    (h : JD M e ρ t fun y t1 => ∃ s, y = .str s ∧ P (optD (getS kvs s)) t1) (m : M1 X d "get" apos e cpos) : JD M (.Call (.Attribute d "get" apos) [e] [] cpos) ρ t P :=
  jd_of (pe_dget1 (by have := hr.un; omega) hd peT m) fun σ G H S Q q => fun p hp => by
    refine tPairs_c kvs _ ⟨upd_same, kvs.map fun p => (Sum.inr p.1, V.str p.2), ?_, by rw [List.length_map]; exact hn, ?_⟩
    · rw [List.map_map]
      rfl
    · rw [hm]
      have k0 := S.ok
      have s1 := k0.layO (o := .dK []) hp
      have eU : upd (upd H p (.dK [])) p (.dK (kvs.map fun p => (Sum.inr p.1, V.str p.2))) = upd H p (.dK (kvs.map fun p => (Sum.inr p.1, V.str p.2))) := by
        funext b
        by_cases hb : b = p
        · subst hb
          rw [upd_same, upd_same]
        · rw [upd_ne hb, upd_ne hb, upd_ne hb]
      rw [eU]
      have s2 := k0.layO (o := .dK (kvs.map fun p => (Sum.inr p.1, V.str p.2))) hp
      refine ⟨p, rfl, .inl ⟨_, .inl upd_same⟩, h σ G _ (S.step s2) _ fun G3 H3 v y t3 s3 d3 ⟨s, ey, q3⟩ => ?_⟩
      subst ey
      have hpr : p ≠ M.r := S.ne_r hp
      have h3 : H3 p = some (.dK (kvs.map fun p => (Sum.inr p.1, V.str p.2))) := s3.hh p _ hpr (fun _ z => by cases z) upd_same
      rw [d3.strE]
      refine ⟨_, DGet.k (k := Sum.inr s) h3, ?_⟩
      have e1 : valV (kvs.map fun p => ((Sum.inr p.1 : Key), V.str p.2)) (Sum.inr s) = (getS kvs s).map V.str := by
        unfold valV getS
        rw [List.find?_map]
        simp only [Function.comp_def, Option.map_map]
        congr 1
        congr 1
        funext x
        by_cases hx : x.1 = s
        · rw [decide_eq_true hx, decide_eq_true (by rw [hx])]
        · rw [decide_eq_false hx, decide_eq_false (fun z => hx (Sum.inr.inj z))]
      rw [e1]
      cases eg : getS kvs s with
      | none =>
        rw [eg] at q3
        exact q G3 H3 .non .none t3 (s2.trans s3) .non q3
      | some z =>
        rw [eg] at q3
        exact q G3 H3 (.str z) (.str z) t3 (s2.trans s3) (.str z) q3
/-- a chain of comparisons of texts as a test -/
theorem jt_chainS {P : Bool → Rs → Prop} {a b c : Expr} {pos : Pos} {op op' : CmpOp} {g g' : Str → Str → Bool} {r r' : R2} (ho : OpR X (compareOp op) r) (ho' : OpR X (compareOp op') r') (hr : ∀ i j H (Q : VK), Q (.bl (g i j)) H → r (.str i) (.str j) H Q) (hr' : ∀ i j H (Q : VK), Q (.bl (g' i j)) H → r' (.str i) (.str j) H Q)
    (h : JD M a ρ t fun x t1 => ∃ i, x = .str i ∧ JD M b ρ t1 fun y t2 => ∃ j, y = .str j ∧ (g i j = false → P false t2) ∧ (g i j = true → JD M c ρ t2 fun z t3 => ∃ k, z = .str k ∧ P (g' j k) t3)) (hm : lastMarks [op, op'] [b, c] = false := by rfl) : JT M (.Compare a [op, op'] [b, c] pos) ρ t P :=
  jt_of (pt_chain ho ho' peT peT peT hm) fun σ G H S Q q => h σ G H S _ fun G1 H1 v x t1 s1 d1 ⟨i, e1, h1⟩ => h1 σ G1 H1 (S.step s1) _ fun G2 H2 w y t2 s2 d2 ⟨j, e2, hf, ht⟩ => by
    subst e1 e2
    rw [d1.strE, d2.strE]
    refine hr i j _ _ ⟨g i j, rfl, ?_⟩
    cases hg : g i j with
    | true =>
      refine iteT (ht hg σ G2 H2 ((S.step s1).step s2) _ fun G3 H3 u z t3 s3 d3 ⟨k, e3, p⟩ => ?_)
      subst e3
      rw [d3.strE]
      exact hr' j k _ _ ⟨_, rfl, q G3 H3 _ t3 ((s1.trans s2).trans s3) p⟩
    | false => exact iteF ⟨_, rfl, q G2 H2 _ t2 (s1.trans s2) (hf hg)⟩
end
end Dl
end
section
set_option maxRecDepth 100000
set_option maxHeartbeats 4000000
namespace Dl
open PySem PySem.Spec PyProof.Rows L2
/-- t <= u, tuples of ints: u < t is not so -/
theorem lexAt_le : ∀ (k i : Nat) (ns ms : List Int), k = min (ns.length - i) (ms.length - i) → i ≤ ns.length → i ≤ ms.length →
    Ob.lexAt (fun j => decide (ns.getD j 0 = ms.getD j 0)) (fun j => decide (ns.getD j 0 ≤ ms.getD j 0)) (decide (ns.length ≤ ms.length)) i k = !HT.lexLt (ms.drop i) (ns.drop i)
  | 0, i, ns, ms, e, h1, h2 => by
    rw [Ob.lexAt_zero]
    by_cases h : ns.length = i
    · rw [List.drop_of_length_le (l := ns) (by omega), decide_eq_true (show ns.length ≤ ms.length by omega)]
      cases ms.drop i with
      | nil => rfl
      | cons y ys => rfl
    · have h3 : ms.length = i := by omega
      rw [List.drop_of_length_le (l := ms) (by omega), decide_eq_false (show ¬ ns.length ≤ ms.length by omega)]
      have : (ns.drop i).length ≠ 0 := by rw [List.length_drop]; omega
      cases hd : ns.drop i with
      | nil => rw [hd] at this; exact absurd rfl this
      | cons y ys => rfl
  | k + 1, i, ns, ms, e, h1, h2 => by
    have l1 : i < ns.length := by omega
    have l2 : i < ms.length := by omega
    rw [Ob.lexAt_succ, List.drop_eq_getElem_cons l1, List.drop_eq_getElem_cons l2, HT.lexLt_cons, lexAt_le k (i + 1) ns ms (by omega) (by omega) (by omega)]
    have g1 : ns.getD i 0 = ns[i] := by simp [List.getD, List.getElem?_eq_getElem l1]
    have g2 : ms.getD i 0 = ms[i] := by simp [List.getD, List.getElem?_eq_getElem l2]
    rw [g1, g2]
    by_cases h : ns[i] = ms[i]
    · rw [decide_eq_true h, if_pos rfl, if_pos h.symm]
    · rw [decide_eq_false h, if_neg (by decide), if_neg (fun z => h z.symm)]
      by_cases hl : ns[i] ≤ ms[i]
      · rw [decide_eq_true hl, decide_eq_false (by omega)]
        rfl
      · rw [decide_eq_false hl, decide_eq_true (by omega)]
        rfl
section
variable {X : Cx} {Wo : WO} {M : Md X.KK Wo} {ρ : List B} {t : Rs} {a b : Expr} {pos : Pos}
theorem jd_leT {k : Nat} {P : PyData → Rs → Prop} (hr : Room k X.A) (h : JD M a ρ t fun x t1 => ∃ ns : List Int, x = .tuple (ns.map PyData.int) ∧ JD M b ρ t1 fun y t2 => ∃ ms : List Int, y = .tuple (ms.map PyData.int) ∧ P (.bool (!HT.lexLt ms ns)) t2) : JD M (.Compare a [.LtE] [b] pos) ρ t P :=
  jd_cmp (op_leT hr.units0) (nomark _) (h.imp fun x _ ⟨ns, e, h1⟩ => h1.imp fun y _ ⟨ms, e2, q⟩ => by
    subst e e2
    intro G H v w k hv hw Q r
    obtain ⟨a1, vs, rfl, st, da⟩ := hv.tupE
    obtain ⟨a2, ws, rfl, st2, da2⟩ := hw.tupE
    rw [da.ints] at st
    rw [da2.ints] at st2
    refine ⟨a1, a2, ns, ms, rfl, rfl, sqt_up k.sub st, sqt_up k.sub st2, ?_⟩
    rw [lexAt_le _ 0 ns ms (by simp) (Nat.zero_le _) (Nat.zero_le _)]
    exact keep k r (.bl _) q)
theorem jt_imp {e : Expr} {P P' : Bool → Rs → Prop} (h : JT M e ρ t P) (i : ∀ x t', P x t' → P' x t') : JT M e ρ t P' := DT.imp h i
theorem jd_imp {e : Expr} {P P' : PyData → Rs → Prop} (h : JD M e ρ t P) (i : ∀ x t', P x t' → P' x t') : JD M e ρ t P' := h.imp i
theorem jt_leT {k : Nat} {P : Bool → Rs → Prop} (hr : Room k X.A) (h : JD M a ρ t fun x t1 => ∃ ns : List Int, x = .tuple (ns.map PyData.int) ∧ JD M b ρ t1 fun y t2 => ∃ ms : List Int, y = .tuple (ms.map PyData.int) ∧ P (!HT.lexLt ms ns) t2) : JT M (.Compare a [.LtE] [b] pos) ρ t P :=
  jt_cmp (op_leT hr.units0) (nomark _) (h.imp fun x _ ⟨ns, e, h1⟩ => h1.imp fun y _ ⟨ms, e2, q⟩ => by
    subst e e2
    intro G H v w k hv hw Q r
    obtain ⟨a1, vs, rfl, st, da⟩ := hv.tupE
    obtain ⟨a2, ws, rfl, st2, da2⟩ := hw.tupE
    rw [da.ints] at st
    rw [da2.ints] at st2
    refine ⟨a1, a2, ns, ms, rfl, rfl, sqt_up k.sub st, sqt_up k.sub st2, ?_⟩
    rw [lexAt_le _ 0 ns ms (by simp) (Nat.zero_le _) (Nat.zero_le _)]
    exact keep k r (.bl _) ⟨_, rfl, q⟩)
end
end Dl
end
section
set_option maxRecDepth 100000
set_option maxHeartbeats 4000000
namespace Dl
open PySem PySem.Spec PyProof.Rows L2
section
variable {X : Cx} {Wo : WO} {M : Md X.KK Wo} {ρ : List B} {t : Rs} {e a b : Expr} {P : PyData → Rs → Prop} {pos cpos apos p : Pos} {D : Dk} {x : Str}
theorem op_add_bi : OpR X (binaryOp .Add) (fun x y H Q => ∃ k j, x = .bl k ∧ y = .int j ∧ Q (.int ((if k = true then (1 : Int) else 0) + j)) H) := by
  intro pins s σ H x y v u Q I rx ry h
  obtain ⟨k, j, rfl, rfl, q⟩ := h
  obtain ⟨t, rfl⟩ := ry
  cases rx
  exact PySem.IntBool.add_bool_int ⟨.int _, H, I.tok _, ⟨_, rfl⟩, q⟩
/-- True + i -/
theorem jd_addB (h : JD M a ρ t fun x t1 => ∃ k, x = .bool k ∧ JD M b ρ t1 fun y t2 => ∃ j, y = .int j ∧ P (.int ((if k = true then (1 : Int) else 0) + j)) t2) : JD M (.BinOp a .Add b pos) ρ t P := jd_bin op_add_bi (h.imp fun _ _ ⟨i, e, h1⟩ => h1.imp fun _ _ ⟨j, f, q⟩ => by
  subst e f
  intro G H v w k hv hw Q r
  cases hv
  exact ⟨_, _, rfl, hw.intE, keep k r (.int _) q⟩)
/-- own[i] -/
theorem jd_ixO (i : Nat) {xs : List PyData} (hr : ρ[i]? = some (.own xs)) (h : JD M b ρ t fun y t2 => ∃ j z, y = .int j ∧ atI xs j = some z ∧ P z t2) (hp : PlainIx b := by intro _ _; rfl)
    (hN : X.N[i]? = some x := by rfl) (hv : Vis X.env.scope x := by first | exact Or.inl rfl | exact Or.inr (Or.inl rfl) | exact Or.inr (Or.inr rfl)) (hd : (x == ("__debug__" : Str)) = false := by decide) (hcd : (x == ("__classdict__" : Str)) = false := by decide) : JD M (.Subscript (.Name x p) b pos) ρ t P :=
  jd_of (pe_ix ix_list (pv i hN hv hd hcd) peT hp) fun σ G H S Q q => by
    obtain ⟨l, ws, e1, _, _⟩ := own_at S hr
    refine ⟨.ref l, e1, h σ G H S _ fun G1 H1 v y t1 s1 d1 ⟨j, z, ey, hz, p1⟩ => ?_⟩
    subst ey
    have S1 := S.step s1
    obtain ⟨l2, ws2, e2, h2, d2⟩ := own_at S1 hr
    rw [e1] at e2
    cases e2
    obtain ⟨u, eu, du⟩ := d2.atI hz
    exact ⟨l, ws2, j, u, rfl, d1.intE, .inl (.inl h2), eu, q G1 H1 u z t1 s1 du p1⟩
/-- len(own) -/
theorem jd_lenO (i : Nat) {xs : List PyData} {q : Pos} (hr : ρ[i]? = some (.own xs)) (hm : X.mg "len" = none) (hx : xs.length ≤ 16777216) (h : P (.int xs.length) t) (hg : Gl X (Str.ofString "len") := by rfl)
    (hN : X.N[i]? = some x := by rfl) (hv : Vis X.env.scope x := by first | exact Or.inl rfl | exact Or.inr (Or.inl rfl) | exact Or.inr (Or.inr rfl)) (hd : (x == ("__debug__" : Str)) = false := by decide) (hcd : (x == ("__classdict__" : Str)) = false := by decide)
    (h3 : starEach [.Name x p] X.env = (false, eval (.Name x p) X.env) :: starEach [] X.env := by rfl) : JD M (.Call (.Name (Str.ofString "len") q) [.Name x p] [] pos) ρ t P :=
  jd_of (pe_callB call_len hg hm PySem.boot_len (pa_cons (pv i hN hv hd hcd) pa_nil h3) (by decide) (by decide) h3 rfl) fun σ G H S Q r => by
    obtain ⟨l, ws, e1, h1, d⟩ := own_at S hr
    refine ⟨.ref l, e1, .ref l, xs.length, rfl, ?_, r G H _ _ t S.ok.refl (.int _) h⟩
    exact .inl ⟨ws, .inl (.inl h1), d.length.symm⟩
/-- own.insert(i, y) -/
theorem js_insert (i : Nat) {xs : List PyData} (hr : ρ[i]? = some (.own xs)) (h : JD M a ρ t fun y t1 => ∃ j : Nat, y = .int j ∧ j < 2 ^ 62 ∧ JD M b ρ t1 fun z t2 => xs.length < 16777216 ∧ D.nx (ρ.set i (.own (xs.take j ++ [z] ++ xs.drop j))) t2)
    (hN : X.N[i]? = some x := by rfl) (hv : Vis X.env.scope x := by first | exact Or.inl rfl | exact Or.inr (Or.inl rfl) | exact Or.inr (Or.inr rfl)) (hd : (x == ("__debug__" : Str)) = false := by decide) (hcd : (x == ("__classdict__" : Str)) = false := by decide)
    (hs : swapsWith (.Call (.Attribute (.Name x p) "insert" apos) [a, b] [] cpos) none pos.line X.env = pure false := by rfl) (h3 : starEach [a, b] X.env = (false, eval a X.env) :: starEach [b] X.env := by rfl) (h6 : starEach [b] X.env = (false, eval b X.env) :: starEach [] X.env := by rfl)
    (h1 : attributeBase (.Name x p) "insert" X.env (eval (.Name x p) X.env) = eval (.Name x p) X.env := by rfl)
    (h2 : ((((backTo cpos (starEach [a, b] X.env)).all fun x => !x.1) && (backToKw cpos (keywordEach [] X.env)).all fun x => x.1.isSome) && decide (([a, b].length + ([] : List Keyword).length + if ([] : List Keyword).isEmpty = true then 0 else 1) < 30)) = true := by rfl)
    (h4 : (apos.endLine == cpos.line) = true := by rfl) (h5 : ((backTo cpos (starEach [b] X.env)).any fun x => x.1) = false := by rfl) : JS M (.Expr (.Call (.Attribute (.Name x p) "insert" apos) [a, b] [] cpos) pos) ρ t D :=
  js_of (ps_expr (pe_bm PySem.F.plainAttrs_list PySem.F.slot_list_insert PySem.F.type_list_insert mt_insert (pv i hN hv hd hcd) (pa_cons peT (pa_cons peT pa_nil h6) h3) h1 h2 h4 h3 h5) hs) fun σ G H S E F => by
    obtain ⟨l, ws, e1, h1, d⟩ := own_at S hr
    refine ⟨.ref l, e1, .inl ⟨rfl, ws, .inl (.inl h1)⟩, h σ G H S _ fun G1 H1 v y t1 s1 d1 ⟨j, ey, hj, h'⟩ => h' σ G1 H1 (S.step s1) _ fun G2 H2 w z t2 s2 d2 ⟨hl, p⟩ => ?_⟩
    subst ey
    have S2 := (S.step s1).step s2
    obtain ⟨l2, ws2, e2, h2, dw⟩ := own_at S2 hr
    rw [e1] at e2
    cases e2
    refine ⟨l, ws2, j, w, rfl, by rw [d1.intE], h2, ?_, by omega, by omega, F.nx σ G2 _ _ t2 (S2.write hr e1 ?_) (s1.gg.trans s2.gg) p⟩
    · exact line_lt (by rw [dw.length]; exact hl)
    · exact ((dw.take j).app (.cons d2 .nil)).app (dw.drop j)
/-- a statement, by what holds behind it -/
theorem js_imp {st : Stmt} {Pn : List B → Rs → Prop} (h : JS M st ρ t { D with nx := Pn }) (i : ∀ ρ' t', Pn ρ' t' → D.nx ρ' t') : JS M st ρ t D := fun σ G H S E F =>
  h σ G H S E ⟨fun σ' G' H' ρ' t' S' m z => F.nx σ' G' H' ρ' t' S' m (i _ _ z), F.bk, F.ct, F.rt, F.rtL⟩
theorem jss_cut {st : Stmt} {rest : List Stmt} (Pn : List B → Rs → Prop) (h : JS M st ρ t { D with nx := Pn }) (i : ∀ ρ' t', Pn ρ' t' → JSs M rest ρ' t' D) : JSs M (st :: rest) ρ t D := jss_cons (js_imp h i)
end
end Dl
end
section
set_option maxRecDepth 100000
set_option maxHeartbeats 4000000
namespace Dl
open PySem PySem.Spec PyProof.Rows L2
/-! ### the parts of a display, read forward -/
theorem ds_nil {R : List PyData → Prop} (h : R []) : ∃ ds, ([] : List B) = ds.map B.d ∧ R ds := ⟨[], rfl, h⟩
theorem ds_cons {x : PyData} {bs : List B} {R : List PyData → Prop} (h : ∃ ds, bs = ds.map B.d ∧ R (x :: ds)) : ∃ ds, B.d x :: bs = ds.map B.d ∧ R ds := by
  obtain ⟨ds, e, r⟩ := h
  exact ⟨x :: ds, by rw [e]; rfl, r⟩
/-! ### t[::-1] of a tuple -/
section
variable {prog : Program} {w : World} {A : Around} {E : Value → Shared → Prop} {s : Shared}
theorem back_applied {sl : Addr} {vs : Value} {n : Nat} {Q : Int × Int × Nat → Shared → Prop} (hs : s.heap.IsSliceOf sl .none .none vs) (pv : IsPart vs (some (-1))) (h : Q ((n : Int) - 1, -1, n) s) : wpAny (model prog w) A (Builtin.Slice.sliceApplied (.ref sl) (pure (n : Int))) Q E s := by
  have hs2 := hs
  obtain ⟨ob, e1, e2, e3⟩ := hs2
  unfold Builtin.Slice.sliceApplied Builtin.Slice.sliceFields
  refine wpAny_bind (wpAny_bind (wpAny_field e1 e3 (x := .none) rfl (wpAny_bind (wpAny_field e1 e3 (x := .none) rfl (wpAny_bind (wpAny_field e1 e3 (x := vs) rfl (wpAny_pure ?_)))))))
  refine wpAny_bind (HT.slicePart_ pv ?_)
  show wpAny _ _ (if ((-1 : Int) == 0) = true then _ else _) _ _ s
  rw [if_neg (by decide)]
  refine wpAny_bind (slicePart_none (wpAny_bind (slicePart_none (wpAny_bind (wpAny_pure ?_)))))
  show wpAny _ _ (match Builtin.Slice.sliceAdjust none none (-1) (n : Int) with | (lo, hi) => pure (lo, (-1 : Int), Builtin.Slice.slicePlaces lo hi (-1))) _ _ s
  have ea : Builtin.Slice.sliceAdjust none none (-1) (n : Int) = ((n : Int) - 1, -1) := rfl
  rw [ea]
  show wpAny _ _ (pure ((n : Int) - 1, (-1 : Int), Builtin.Slice.slicePlaces ((n : Int) - 1) (-1) (-1))) _ _ s
  have ep : Builtin.Slice.slicePlaces ((n : Int) - 1) (-1) (-1) = n := by
    unfold Builtin.Slice.slicePlaces
    rw [if_neg (by decide)]
    by_cases h0 : n = 0
    · subst h0
      rfl
    · rw [if_pos (by omega)]
      have : ((n : Int) - 1 - -1 - 1) / (- -1) + 1 = (n : Int) := by
        rw [show (- -1 : Int) = 1 by decide, Int.ediv_one]
        omega
      rw [this]
      rfl
  rw [ep]
  exact wpAny_pure h
theorem fm_congr {α β : Type} {f g : α → Option β} : ∀ {l : List α}, (∀ x ∈ l, f x = g x) → l.filterMap f = l.filterMap g
  | [], _ => rfl
  | x :: l, h => by
    rw [List.filterMap_cons, List.filterMap_cons, h x List.mem_cons_self, fm_congr fun y hy => h y (List.mem_cons_of_mem _ hy)]
theorem back_pick (xs : Array Value) : ((List.range xs.size).filterMap fun (m : Nat) => xs[(((xs.size : Int) - 1) + (m : Int) * (-1)).toNat]?).toArray = xs.toList.reverse.toArray := by
  congr 1
  refine List.ext_getElem? fun i => ?_
  have e : ((List.range xs.size).filterMap fun (m : Nat) => xs[(((xs.size : Int) - 1) + (m : Int) * (-1)).toNat]?) = (List.range xs.size).map fun m => xs.toList.getD (xs.size - 1 - m) .none := by
    rw [← List.filterMap_eq_map]
    refine fm_congr fun m hm => ?_
    have hm' := List.mem_range.mp hm
    have e1 : (((xs.size : Int) - 1) + (m : Int) * (-1)).toNat = xs.size - 1 - m := by omega
    rw [e1]
    have h1 : xs.size - 1 - m < xs.size := by omega
    rw [Array.getElem?_eq_getElem h1]
    simp [List.getD, Function.comp, h1]
  rw [e, List.getElem?_map]
  by_cases hi : i < xs.size
  · rw [List.getElem?_range hi, List.getElem?_reverse (by simpa using hi)]
    simp [List.getD, show xs.size - 1 - i < xs.size by omega]
  · rw [List.getElem?_eq_none (by simp; omega), List.getElem?_eq_none (by simp; omega)]
    rfl
theorem back_get {t sl : Addr} {vs : Value} {items : Array Value} {Q : Value → Shared → Prop} (ht : IsTup s.heap t items) (hs : s.heap.IsSliceOf sl .none .none vs) (pv : IsPart vs (some (-1))) (hz : items.size ≤ sizeLine)
    (h : Q (.ref s.heap.objs.size) { s with heap := s.heap.push { cls := .type "tuple", data := .seq items.toList.reverse.toArray } }) : wpAny (model prog w) A (getItem (.ref t) (.ref sl)) Q E s := by
  have fit : sizeOk (.seq items.toList.reverse.toArray) := by
    show items.toList.reverse.toArray.size ≤ sizeLine
    rw [List.size_toArray, List.length_reverse, Array.length_toList]
    exact hz
  have ty : s.TypeIs (.ref sl) "slice" := let ⟨o, a, b, _⟩ := hs; ⟨o, a, b⟩
  unfold getItem
  try with_reducible refine wpAny_holding ?_
  first | refine wpAny_bind (wpAny_pure ?_) | skip
  refine wpAny_bind (wpAny_sequenceKey ht.typeIs (by decide) ?_)
  refine wpAny_bind (wpAny_callSpecial?_slot (name := "__getitem__") ht.typeIs PyProof.Rows.slot_tuple_getitem (wpAny_call_entry PyProof.Rows.slot_tuple_getitem ht.typeIs entry_tuple_getitem ?_ (args_tuple_getitem _ _)))
  show wpAny _ _ (Builtin.Tuple.tupleItemsOf (.ref t) >>= _) _ _ s
  refine wpAny_bind (tupleItemsOf_ ht (wpAny_bind (wpAny_typeOf ty ?_)))
  rw [if_pos (by decide)]
  refine wpAny_bind (back_applied hs pv ?_)
  show wpAny _ _ (if (((items.size : Int) - 1) == 0 && (-1 : Int) == 1 && items.size == items.size) = true then _ else _) _ _ s
  have no : ¬ ((((items.size : Int) - 1) == 0 && (-1 : Int) == 1 && items.size == items.size) = true) := fun z => by
    rw [Bool.and_eq_true, Bool.and_eq_true] at z
    exact absurd z.1.2 (by decide)
  rw [if_neg no, back_pick]
  exact wpAny_bind (m := Builtin.Tuple.tupleExact _) (wpAny_newObj_type (wpAny_pure ⟨_, rfl, wpAny_pure h⟩) fit)
end
section
variable {X : Cx}
def tBackT (K : KK) (te : TE) : TE := fun σ H Q => te σ H fun x H1 => ∃ a xs, x = .ref a ∧ SqT K H1 a xs ∧ ∀ p, H1 p = none → Q (.ref p) (upd H1 p (.tup xs.reverse))
theorem pe_backT {e : Expr} {te : TE} {k : Nat} {p1 p2 p3 pos : Pos} (he : PE X e te) : PE X (.Subscript e (.Slice none none (some (.UnaryOp .USub (.Constant (.int 1) k p1) p2)) p3) pos) (tBackT X.KK te) := ⟨fun pins s σ H Q I h => by
  refine Subscript_ (thn (he.run pins s σ H _ I h) fun v s1 ⟨x, H1, I1, r1, a, xs, ex, hx, q⟩ => ?_)
  subst ex
  cases r1
  have step : PO X (some (.UnaryOp .USub (.Constant (.int 1) k p1) p2)) (tPart (tUn (rU fun i => .int (-i)) (tC (.int 1)))) := po_some (pe_un un_neg pe_int)
  refine wpAny_Slice (thn (po_none.run pins s1 σ H1 (fun o H2 => o = none ∧ H2 = H1) I1 ⟨rfl, rfl⟩) fun vl s2 ⟨l, H2, I2, pl, el, e2⟩ => ?_)
  subst el e2
  refine thn (po_none.run pins s2 σ H2 (fun o H3 => o = none ∧ H3 = H2) I2 ⟨rfl, rfl⟩) fun vu s3 ⟨u, H3, I3, pu, eu, e3⟩ => ?_
  subst eu e3
  refine thn (step.run pins s3 σ H3 (fun o H4 => o = some (-1) ∧ H4 = H3) I3 ⟨1, rfl, -1, rfl, rfl, rfl⟩) fun vs s4 ⟨o, H4, I4, ps, eo, e4⟩ => ?_
  subst eo e4
  cases pl
  cases pu
  have J : Inv X pins σ H4 { s4 with heap := s4.heap.push { cls := .type "slice", data := .fields #[.none, .none, vs] } } := I4.kept (t' := s4.toks) fun b ob z => Heap.get?_push_of_some _ z
  obtain ⟨its, r, tu, hz⟩ := J.tuple hx
  show wpAny (model X.prog X.w) X.A (subscriptTail e (.Slice none none (some (.UnaryOp .USub (.Constant (.int 1) k p1) p2)) p3) (.ref a) (.ref s4.heap.objs.size)) (EP X pins σ Q) X.xe { s4 with heap := s4.heap.push { cls := .type "slice", data := .fields #[.none, .none, vs] } }
  refine tail_any (ops := [.ref a, .ref s4.heap.objs.size]) tu.typeIs (PyProof.Rows.slot_tuple_getitem.lookup) ?_ (by with_unfolding_all rfl)
  have hlen := r.length
  refine back_get tu (Heap.IsSliceOf.new _ .none .none vs) ps (by rw [List.size_toArray]; omega) ?_
  refine ⟨.ref _, _, J.laid (t' := s4.toks) (o := .tup xs.reverse) (fun b ob z => Heap.get?_push_of_some _ z) (Nat.le_refl _) ?_, rfl, q _ (J.hok.fresh (Nat.le_refl _))⟩
  exact ⟨by rw [List.length_reverse]; exact hz, its.reverse, r.reverse, _, Heap.get?_push_size _ rfl, rfl, _, rfl⟩⟩
section
variable {Wo : WO} {M : Md X.KK Wo} {ρ : List B} {t : Rs} {a b : Expr} {P : PyData → Rs → Prop} {pos : Pos}
theorem jd_revT {k : Nat} {p1 p3 p4 : Pos} (h : JD M a ρ t fun x t1 => ∃ xs, x = .tuple xs ∧ P (.tuple xs.reverse) t1) : JD M (.Subscript a (.Slice none none (some (.UnaryOp .USub (.Constant (.int 1) k p1) p3)) p4) pos) ρ t P :=
  jd_of (pe_backT peT) fun σ G H S Q q => h σ G H S _ fun G1 H1 v x t1 s1 d1 ⟨xs, e, p⟩ => by
    subst e
    have k := (S.step s1).ok
    obtain ⟨a1, vs, rfl, st, da⟩ := d1.tupE
    refine ⟨a1, vs, rfl, sqt_up k.sub st, fun n1 hn => ?_⟩
    have s4 := k.lay (o := .tup vs.reverse) hn
    exact q _ _ _ _ t1 (s1.trans s4) (.tup (.inl (.inl upd_same)) (DeAll.up s4.gg _ _ da.rev)) p
/-- text * int -/
def rMulS : R2 := fun x y H Q => ∃ z n, x = .str z ∧ y = .int n ∧ MulOk z n ∧ Q (.str (Txt.mul z n)) H
theorem op_mulS : OpR X (binaryOp .Mult) rMulS := by
  intro pins s σ H x y v u Q I rx ry h
  obtain ⟨z, n, rfl, rfl, ok, q⟩ := h
  obtain ⟨t, rfl⟩ := rx
  obtain ⟨t', rfl⟩ := ry
  exact SB.mul ok fun t2 k => ⟨.str _, H, I.tok _, ⟨_, rfl⟩, q⟩
theorem jd_mulS (h : JD M a ρ t fun x t1 => ∃ z, x = .str z ∧ JD M b ρ t1 fun y t2 => ∃ n, y = .int n ∧ MulOk z n ∧ P (.str (Txt.mul z n)) t2) : JD M (.BinOp a .Mult b pos) ρ t P := jd_bin op_mulS (h.imp fun _ _ ⟨i, e, h1⟩ => h1.imp fun _ _ ⟨j, f, m, q⟩ => by
  subst e f
  intro G H v w k hv hw Q r
  exact ⟨i, j, hv.strE, hw.intE, m, keep k r (.str _) q⟩)
end
end
end Dl
end
section
set_option maxRecDepth 100000
set_option maxHeartbeats 4000000
namespace Dl
open PySem PySem.Spec PyProof.Rows L2
/-! ### a def that is called where nothing is being shown: repr of lists is known there -/
/-- what a def promises at callers that show nothing -/
structure FnG (P : Program) (w : World) (K : PySem.W.Frag) (mg : Str → Option Value) (base : Heap) (k : Nat) (f : Addr) (fd : FuncData) (ps : List Str) (sp : Sp) : Prop where
  run : ∀ (A : Around) (out : List Env) (s0 : Shared) (G : Hp) (ar : Args) (xs : List Value) (ys : List V) (Qf : VK) (Ef : XK), A.guards = some [] → Room k A → Env0 P w K mg base A out s0 G →
    BindsTo s0 fd ar (ps.zip xs) → Vals ys xs → sp ys G Qf Ef → codeAny (model P w) A (.call (.ref f) ar) (CR CX0 out P w G s0 Qf Ef) s0
section
variable {P : Program} {w : World} {K : PySem.W.Frag} {mg : Str → Option Value} {base : Heap}
theorem fnG_of {x qual : Str} {st : Stmt} {f : Addr} {fd : FuncData} {N ps : List Str} {k : Nat} {sp : Sp} (F : Fun K x qual st f fd) (Sc : FnScope N ps (defScope st)) (len : ∀ ys G Qf Ef, sp ys G Qf Ef → ys.length = ps.length)
    (body : ∀ (cdv : Value) (A : Around) (out : List Env) (s0 : Shared) (G : Hp) (ys : List V) (Qf : VK) (Ef : XK), A.guards = some [] → Room k (A.deeper (envOfC qual (defScope st) s0.heap.objs.size f cdv)) → sp ys G Qf Ef →
      ∃ t, PSs (Xo P w K mg base N qual st f cdv A out s0 G Ef) (defBody st) t ∧ t { nx := fun _ G' => Qf .non G', rt := Qf } (L2.start N ys) G) : FnG P w K mg base (k + 1) f fd ps sp := by
  obtain ⟨oc, od, kV, doc, pm, an, cdv, ct, osl, rfl, lk, hcd⟩ := F.ex
  refine ⟨fun A out s0 G ar xs ys Qf Ef hg hr env bd rv hsp => ?_⟩
  have same := len _ _ _ _ hsp
  have inK : K.In s0.heap := env.mod.kin.keeps fun b o z => (env.bs b o z).1
  have free : s0.heap.NoLimit := env.mod.nolimit.keeps fun b o z => (env.bs b o z).1
  have place : ∀ y ∈ ps.zip xs, (defScope st).names.lookup y.1 = some .local ∨ ((defScope st).names.lookup y.1 = some .cell ∧ ((cellsFrom (s0.heap.objs.size + 1) (defScope st).names []).lookup y.1).isSome = true) := fun y hy => by
    obtain ⟨n, v⟩ := y
    rcases Sc.par n (List.of_mem_zip hy).1 with z | z
    · exact .inl z
    · exact .inr ⟨z, PySem.W.cellsFrom_some _ _ _ (.inl z)⟩
  refine codeAny_call_function hr.depth (inK _ _ lk) rfl Sc.co Sc.gen rfl (PySem.W.codeRec_of inK hcd) (bd _ _ _ _ (wpAny_newFunctionEnv_cells Sc.kind place fun env1 he s1 x1 => ?_))
  subst he
  refine ⟨free.keeps x1.toInCall.keep, codeAny_func ?_⟩
  obtain ⟨t, ht, hq⟩ := body cdv A out s0 G ys Qf Ef hg (hr.deeper _) hsp
  have J := inv_start (CX := CX0) (E := Ef) Sc hr.hd env same rv x1
  refine wpAny_mono (ht.nox.run [] s1 (L2.start N ys) G _ J hq) (fun fl s2 hs => ?_) fun e s2 hs => hs
  cases fl with
  | ret u =>
    obtain ⟨v, σ1, G1, J1, r1, q1⟩ := hs
    exact ⟨v, G1, J1.os, J1.bare, J1.base, J1.hok, r1, q1⟩
  | next =>
    obtain ⟨σ1, G1, J1, q1⟩ := hs
    exact ⟨V.non, G1, J1.os, J1.bare, J1.base, J1.hok, rfl, q1⟩
  | brk =>
    obtain ⟨_, _, _, q1⟩ := hs
    exact q1.elim
  | cont =>
    obtain ⟨_, _, _, q1⟩ := hs
    exact q1.elim
theorem law_callG {mb : Str → Option Value} {k : Nat} {fa c : Addr} {fd : FuncData} {x : Str} {sp : Sp} {s1 : Shared} {cells : List Value} {ns : List Int}
    (inK : K.In s1.heap) (hm : s1.heap.Ns mainGlobals mg) (hb : s1.heap.Ns builtinsNs mb) (hbb : ∀ x : Str, x ≠ "__name__" → mb x = bootBuiltins x) (free : s1.heap.NoLimit) (hg : s1.gens = #[])
    (hc : s1.heap.get? c = some { cls := .type "list", data := .seq cells.toArray }) (hi : IntsAre cells ns) (hl : ns.length ≤ sizeLine) (hr : Room k callerA)
    (F : ∀ low : Heap, K.In low → low.Ns mainGlobals mg → FnG P w K mg low k fa fd [x] sp) (bd : ∀ (s : Shared) (u : Value), BindsTo s fd ⟨[u], []⟩ [(x, u)])
    (hsp : ∀ H : Hp, Only H → SqL K H c (ns.map V.int) → sp [.ref c] H (fun v _ => v = .bl true) fun _ _ _ => False) :
    codeAny (model P w) callerA (.call (.ref fa) ⟨[.ref c], []⟩) (fun r s' => r = .ok (.ret (.bool true)) ∧ OldK s1.heap s'.heap ∧ s'.os = s1.os ∧ AllBare s'.gens) s1 := by
  have rel := vals_ints hi
  have same := hi.length
  have main : ∀ G : Hp, Only G → SqL K G c (ns.map V.int) → HOk P w G s1.heap → (∀ b, G b ≠ none → b = c) → (G c ≠ none → K.lookup c = none) →
      codeAny (model P w) callerA (.call (.ref fa) ⟨[.ref c], []⟩) (fun r s' => r = .ok (.ret (.bool true)) ∧ OldK s1.heap s'.heap ∧ s'.os = s1.os ∧ AllBare s'.gens) s1 := by
    intro G only sq hok just notK
    have untracked : ∀ {b : Addr} {o : Obj} {es : Array DictEntry} {ep : Nat}, s1.heap.get? b = some o → o.data = .dict es ep → G b = none := fun {b o es ep} e d => by
      by_cases z : G b = none
      · exact z
      · obtain rfl := just b z
        rw [hc] at e
        obtain rfl := Option.some.inj e
        exact absurd d (by intro z2; cases (show Data.seq cells.toArray _ = Data.dict es ep from z2))
    have low : ∀ {b : Addr} {m : Str → Option Value}, s1.heap.Ns b m → (hidT s1.heap G).Ns b m := fun {b m} z => by
      obtain ⟨o, es, ep, e, d, r⟩ := z
      exact ⟨o, es, ep, hidT_get e (untracked e d), d, r⟩
    have lowK : K.In (hidT s1.heap G) := fun b o e => hidT_get (inK b o e) (by
      by_cases z : G b = none
      · exact z
      · obtain rfl := just b z
        rw [notK z] at e
        cases e)
    have md : Mod K mg (hidT s1.heap G) := ⟨lowK, low hm, ⟨mb, low hb, hbb⟩, by
      obtain ⟨mc, z1, z2⟩ := free
      exact ⟨mc, low z1, z2⟩⟩
    have env : Env0 P w K mg (hidT s1.heap G) callerA [] s1 G := ⟨rfl, md, fun b o e => of_hidT e, Nat.le_of_eq (hidT_size _ _), trivial, (fun b z => absurd (show b ∈ ([] : List Addr) from z) List.not_mem_nil), hok, .of_eq hg⟩
    have go := (F _ lowK (low hm)).run callerA [] s1 G ⟨[.ref c], []⟩ [.ref c] [.ref c] _ _ rfl hr env (bd s1 (.ref c)) (.cons rfl .nil) (hsp G only sq)
    refine codeAny_mono go fun r s2 h => ?_
    match r, h with
    | .error e, h => exact (show False from h).elim
    | .ok .next, h => exact (show False from h).elim
    | .ok .brk, h => exact (show False from h).elim
    | .ok .cont, h => exact (show False from h).elim
    | .ok (.ret u), h =>
      obtain ⟨v, G2, os, bare, un, hok2, r2, q⟩ := h
      obtain rfl : v = V.bl true := q
      obtain rfl : u = Value.bool true := r2
      refine ⟨rfl, OldK.of_keep fun b o e => ?_, os, bare⟩
      rcases only b with z | ⟨ob, xs, z⟩
      · exact un.keep b o e z (fun y => absurd (show b ∈ ([] : List Addr) from y) List.not_mem_nil) (by simp)
      · obtain ⟨e1, _⟩ := hok b _ z
        obtain ⟨e2, _⟩ := hok2 b _ (un.frzs b ob _ z)
        rw [e] at e1
        rw [Option.some.inj e1]
        exact e2
  by_cases hk : K.lookup c = none
  · refine main (fun b => if b = c then some (.frz { cls := .type "list", data := .seq cells.toArray } (.lst (ns.map V.int))) else none) (fun b => ?_) (.inl (.inr ⟨{ cls := .type "list", data := .seq cells.toArray }, if_pos rfl⟩)) (fun b u z => ?_) (fun b z => ?_) fun _ => hk
    · by_cases e : b = c
      · exact .inr ⟨_, _, if_pos e⟩
      · exact .inl (if_neg e)
    · by_cases e : b = c
      · obtain rfl := Option.some.inj ((if_pos e).symm.trans z)
        subst e
        exact ⟨hc, by rw [List.length_map]; exact hl, cells, _, rel, hc⟩
      · exact absurd ((if_neg e).symm.trans z) (by intro y; cases y)
    · by_cases e : b = c
      · exact e
      · exact absurd (if_neg e) z
  · obtain ⟨o, ho⟩ := Option.ne_none_iff_exists'.mp hk
    have e := inK c o ho
    rw [hc] at e
    obtain rfl := Option.some.inj e
    exact main (fun _ => none) (fun _ => .inl rfl) (.inr ⟨_, cells.toArray, _, ho, rfl, rfl, rfl, by rw [List.size_toArray, same]; exact hl, by simpa using rel⟩) (fun b u z => absurd (show (none : Option HO) = some u from z) (by intro y; cases y)) (fun b z => absurd rfl z) fun z => absurd rfl z
end
end Dl
end
section
set_option maxRecDepth 100000
set_option maxHeartbeats 4000000
namespace Dl
open PySem PySem.Spec PyProof.Rows L2
/-- what the head leaves, from the law's promise where nothing is shown -/
theorem walk_ofG {l : PySem.W.OpenLaw} {n k : Nat} {q : Program} {loose : List Str} {XP : (Str → Option Value) → Heap → Prop} {YP : World → Heap → Prop} {d : DefRec} {Kp : Params → PySem.W.Frag} {sp : World → Sp} {x : Str}
    (hn : l.most = some n) (hn2 : n ≤ sizeLine) (hdf : d.params.defaults = []) (hr : Room k callerA) (hY : ∀ (w : World) (h : Heap), YP w h → (Kp w.params).In h)
    (F : ∀ (w : World) (mg : Str → Option Value) (fa : Addr) (h : Heap), (Kp w.params).In h → h.Ns mainGlobals mg → mg d.name = some (.ref fa) →
      ∃ fd : FuncData, (∀ (s : Shared) (u : Value), BindsTo s fd ⟨[u], []⟩ [(x, u)]) ∧ ∀ low : Heap, (Kp w.params).In low → low.Ns mainGlobals mg → FnG l.prog w (Kp w.params) mg low k fa fd [x] (sp w))
    (hsp : ∀ (w : World) (H : Hp) (c : Addr) (ns : List Int), ns.length ≤ n → Only H → SqL (Kp w.params) H c (ns.map V.int) → sp w [.ref c] H (fun v _ => v = .bl true) fun _ _ _ => False) :
    PySem.W.WalkO q loose XP YP l.row.toRowW d [] (fun f vs => PySem.call f vs) := by
  refine Att.attach_call hn hdf fun w s0 s1 mg mb fa o pm cd doc c cells ns G Y ho hd hcd hmg hobj hints hlen hg => ?_
  obtain ⟨fd, bd, hF⟩ := F w mg fa _ (hY w _ Y) G.T.g hmg
  exact law_callG (hY w _ Y) G.T.g G.T.b G.T.builtins G.T.nolimit hg hobj hints (Nat.le_trans hlen hn2) hr hF bd fun H a b => hsp w H c ns hlen a b
end Dl
end
section
set_option maxRecDepth 100000
set_option maxHeartbeats 4000000
namespace Dl
open PySem PySem.Spec PyProof.Rows L2
theorem boot_sorted' : bootBuiltins (Str.ofString "sorted") = some (.builtin "sorted") := by decide +kernel
theorem boot_set' : bootBuiltins (Str.ofString "set") = some (.type "set") := by decide +kernel
/-! ### sorted(set(pairs)), whatever ints: some of the pairs, in some order -/
section
variable {P : Program} {w : World} {A : Around} {E : Value → Shared → Prop} {s : Shared}
theorem isT_pair {h : Heap} {k : List Int} {b : Addr} (x : IsT P w h k b) (hk : k.length = 2) : ∃ i j, Srt.IsPair h (.ref b) i j := by
  obtain ⟨o, its, n, ho, hc, hd, hi⟩ := x
  have ia := ints_of_items hi
  match k, hk, its, ia, hd with
  | [i, j], _, its, ia, hd =>
    have e : ∃ t u, its.toList = [.int i t, .int j u] := by
      generalize its.toList = l at ia
      cases ia with
      | cons _ t r => cases r with
        | cons _ u r => cases r; exact ⟨t, u, rfl⟩
    obtain ⟨t, u, e⟩ := e
    have e2 : its = #[.int i t, .int j u] := by rw [← Array.toArray_toList (xs := its), e]
    exact ⟨i, j, b, o, t, u, n, rfl, ho, hc, by rw [← e2]; exact hd⟩
theorem sorted_setP {a : Addr} {L : List (Addr × List Int)} {es : Array (Int × Value)} {ep : Nat} {t : SetTable} {Q : Value → Shared → Prop} (R : SetTR P w s.heap a L es ep t) (hh : A.handled = none) (two : ∀ p ∈ L, p.2.length = 2)
    (hQ : ∀ s' p (out : List Value) (c : Nat), (∀ b o, s.heap.get? b = some o → s'.heap.get? b = some o) → s'.gens = s.gens → s'.os = s.os → s.heap.objs.size ≤ p → s'.heap.get? p = some (seqObj "list" out.toArray c) → out.Perm (L.map fun q => Value.ref q.1) → Q (.ref p) s') :
    wpAny (model P w) A (call (.builtin "sorted") [.ref a]) Q E s := by
  obtain ⟨ob, h1, h2, h3⟩ := R.ob
  have few := R.few
  have sz := R.size
  refine Calls.call_function_entry kind_sorted plain_sorted entry_sorted (args_sorted1 _) ?_
  unfold Builtin.«sorted»
  refine wpAny_bind (m := checkCount "sorted" 1 1 _) (wpAny_pure ?_)
  refine wpAny_bind (collect_set (A := A.in1) hh ⟨ob, h1, h2.1, h3⟩ R.fits (by unfold scanBound; omega) R.tab.ris R.led fun s1 vs k1 z1 g1 o1 pm => ?_)
  have rows : es.toList.map (·.2) = L.map fun q => Value.ref q.1 := by
    rw [R.rows]
    unfold rowsOf
    rw [List.map_map] <;> rfl
  rw [rows] at pm
  have fit : vs.length ≤ sizeLine := by
    rw [pm.length_eq, List.length_map, sizeLine_eq]
    omega
  refine wpAny_bind (wpAny_newList ?_ fit)
  have at1 : (s1.heap.push (seqObj "list" vs.toArray 0)).get? s1.heap.objs.size = some (seqObj "list" vs.toArray 0) := Heap.get?_push_size _ rfl
  have pairs : ∀ v ∈ vs, ∃ i j, Srt.IsPair (s1.heap.push (seqObj "list" vs.toArray 0)) v i j := fun v hv => by
    obtain ⟨q, hq, rfl⟩ := List.mem_map.mp (pm.mem_iff.mp hv)
    exact isT_pair (P := P) (w := w) (isT_keep (R.tup q hq) fun b u e => Heap.get?_push_of_some _ (k1 b u e)) (two q hq)
  refine wpAny_bind (wpAny_holding (wpAny_call_entry slot_list_sort ⟨_, at1, rfl⟩ entry_list_sort (Srt.list_sort_any (s := { s1 with heap := s1.heap.push (seqObj "list" vs.toArray 0) }) at1 fit (fun h2 => Srt.pairs_sortable (s := { s1 with heap := s1.heap.push (seqObj "list" vs.toArray 0) }) (by omega) pairs fun o e => ?_) fun out ho => ⟨_, rfl, ?_⟩) (args_list_sort _)))
  · have e' : some o = some (seqObj "list" vs.toArray 0) := e.symm.trans at1
    cases e'
    intro c
    exact absurd (Value.type.inj c) (by decide)
  · obtain ⟨c, hc⟩ := sortedHeap_at (vs := vs) (out := out.toArray) at1
    refine wpAny_pure ⟨_, rfl, hQ _ s1.heap.objs.size out c (fun b u e => ?_) g1 o1 z1 hc (ho.trans pm)⟩
    have e1 := k1 b u e
    have lt := Heap.lt_size e1
    show (sortedHeap (s1.heap.push (seqObj "list" vs.toArray 0)) s1.heap.objs.size vs out.toArray).get? b = some u
    rw [sortedHeap_old (Nat.ne_of_lt lt) (by rw [size_push']; exact Nat.lt_succ_of_lt lt)]
    exact Heap.get?_push_of_some _ e1
end
def rSortedQ (K : KK) (P : Program) (w : World) : List V → Hp → VK → Prop := fun vs H Q => ∃ (a : Addr) (L : List (Addr × List Int)), vs = [V.ref a] ∧ H a = some (SetTO P w a L) ∧ (∀ p ∈ L, SqT K H p.1 (p.2.map V.int) ∧ p.2.length = 2) ∧
  ∀ (L2 : List (Addr × List Int)) (p : Addr), (∀ q ∈ L2, q ∈ L) → L2.length < 64 → H p = none → Q (.ref p) (upd H p (.lst (L2.map fun q => V.ref q.1)))
section
variable {X : Cx}
theorem perm_map_out {α : Type} (f : Addr × List Int → α) : ∀ {out : List α} {L : List (Addr × List Int)}, out.Perm (L.map f) → ∃ L2 : List (Addr × List Int), out = L2.map f ∧ (∀ q ∈ L2, q ∈ L) ∧ L2.length = L.length := fun {out L} h => by
  have mem : ∀ o : List α, (∀ v ∈ o, v ∈ L.map f) → ∃ L2 : List (Addr × List Int), o = L2.map f ∧ ∀ q ∈ L2, q ∈ L := by
    intro o
    induction o with
    | nil => exact fun _ => ⟨[], rfl, fun q z => by cases z⟩
    | cons v r ih =>
      intro hv
      obtain ⟨q, hq, e⟩ := List.mem_map.mp (hv v List.mem_cons_self)
      obtain ⟨L2, e2, h2⟩ := ih fun u hu => hv u (List.mem_cons_of_mem _ hu)
      exact ⟨q :: L2, by rw [List.map_cons, e, e2], fun z hz => by
        rcases List.mem_cons.mp hz with rfl | hz
        · exact hq
        · exact h2 z hz⟩
  obtain ⟨L2, e, h2⟩ := mem out fun v hv => h.mem_iff.mp hv
  refine ⟨L2, e, h2, ?_⟩
  have l := h.length_eq
  rw [e, List.length_map, List.length_map] at l
  exact l
theorem cr_sortedQ (hc : X.calm = true) : CallR X (.builtin "sorted") (rSortedQ X.KK X.prog X.w) := by
  intro pins s σ H vs us Q I r h
  obtain ⟨a, L, rfl, ha, hk, q⟩ := h
  have R0 : SetT0 X.prog X.w s.heap a L := (I.hok a _ ha).1
  obtain ⟨es, ep, t, R⟩ := R0.full fun p hp => I.isT (hk p hp).1
  rw [Vals.ref1 r]
  refine sorted_setP R (I.ok.hd hc) (fun p hp => (hk p hp).2) fun s2 p out c k g o hp hg perm => ?_
  obtain ⟨L2, rfl, sub, len⟩ := perm_map_out _ perm
  have few := R.few
  have fresh : H p = none := I.hok.fresh hp
  have J : Inv X pins σ (upd H p (.lst (L2.map fun q => V.ref q.1))) { s with heap := s2.heap, gens := s2.gens, drawn := s2.drawn, toks := s2.toks } :=
    I.call (ch := []) (Un.laid k hp fresh) (I.hok.laid k hp ⟨by rw [List.length_map, sizeLine_eq]; omega, _, c, vals_of_refs L2, hg⟩) (by rw [g]; exact I.bare) fun _ z => nomatch z
  have e : s2 = { s with heap := s2.heap, gens := s2.gens, drawn := s2.drawn, toks := s2.toks } := by
    cases s2
    cases s
    cases o
    rfl
  rw [e]
  exact ⟨.ref p, _, J, rfl, q L2 p sub (by omega) fresh⟩
end
theorem rows_of {K : KK} {G : Hp} : ∀ {ws : List V} {nss : List (List Int)}, DeAll K G ws (nss.map fun ns => .tuple (ns.map PyData.int)) → ∃ ks : List (Addr × List Int), ws = ks.map (fun p => V.ref p.1) ∧ ks.map (·.2) = nss ∧ ∀ p ∈ ks, SqT K G p.1 (p.2.map V.int)
  | ws, [], h => by
    cases h
    exact ⟨[], rfl, rfl, fun p z => by cases z⟩
  | ws, ns :: nss, h => by
    rw [List.map_cons] at h
    cases h with
    | cons d r =>
      obtain ⟨a, vs, rfl, st, da⟩ := d.tupE
      rw [da.ints] at st
      obtain ⟨ks, e1, e2, e3⟩ := rows_of r
      exact ⟨(a, ns) :: ks, by rw [List.map_cons, e1], by rw [List.map_cons, e2], fun p hp => by
        rcases List.mem_cons.mp hp with rfl | hp
        · exact st
        · exact e3 p hp⟩
theorem rows_back {K : KK} {G : Hp} : ∀ (ks : List (Addr × List Int)), (∀ p ∈ ks, SqT K G p.1 (p.2.map V.int)) → DeAll K G (ks.map fun p => V.ref p.1) ((ks.map (·.2)).map fun ns => .tuple (ns.map PyData.int))
  | [], _ => .nil
  | p :: ks, h => .cons (.tup (h p List.mem_cons_self) (DeAll.ofInts _)) (rows_back ks fun q hq => h q (List.mem_cons_of_mem _ hq))
section
variable {X : Cx} {Wo : WO} {M : Md X.KK Wo} {ρ : List B} {t : Rs} {e : Expr} {P : List PyData → Rs → Prop} {pos pos2 p1 p2 : Pos}
theorem jl_sortedSet {k : Nat} (hc : X.calm = true) (hr : Room k X.A) (hm1 : X.mg "sorted" = none) (hm2 : X.mg "set" = none)
    (h : JD M e ρ t fun x t1 => ∃ nss : List (List Int), x = .list (nss.map fun ns => .tuple (ns.map PyData.int)) ∧ nss.length < 64 ∧ (∀ ns ∈ nss, ns.length = 2) ∧ ∀ mss : List (List Int), (∀ ns ∈ mss, ns ∈ nss) → mss.length < 64 → P (mss.map fun ns => .tuple (ns.map PyData.int)) t1)
    (hg1 : Gl X "sorted" := by rfl) (hg2 : Gl X "set" := by rfl) (h3 : starEach [e] X.env = (false, eval e X.env) :: starEach [] X.env := by rfl)
    (h4 : starEach [.Call (.Name "set" p2) [e] [] pos2] X.env = (false, eval (.Call (.Name "set" p2) [e] [] pos2) X.env) :: starEach [] X.env := by rfl) : JL M (.Call (.Name "sorted" p1) [.Call (.Name "set" p2) [e] [] pos2] [] pos) ρ t P :=
  jl_of (pe_callB (cr_sortedQ hc) hg1 hm1 boot_sorted' (pa_cons (pe_callTy (cr_setOfT hc (by have := hr.un; omega)) hg2 hm2 boot_set' (pa_cons peT pa_nil h3) (by decide) (by decide) h3 rfl) pa_nil h4) (by decide) (by decide) h4 rfl) fun σ G H S Q q =>
    h σ G H S _ fun G1 H1 v x t1 s1 d1 ⟨nss, ex, few, two, p⟩ => by
      subst ex
      obtain ⟨l, ws, rfl, st, da⟩ := d1.lstE
      obtain ⟨ks, rfl, e2, e3⟩ := rows_of da
      have k1 := (S.step s1).ok
      have hlen : ks.length = nss.length := by rw [← e2, List.length_map]
      refine ⟨l, ks, rfl, .inl (.inl (k1.sub _ _ st)), fun p hp => sqt_up k1.sub (e3 p hp), by omega, fun a L ha sub _ => ?_⟩
      have s2 := k1.layO (o := SetTO X.prog X.w a L) ha
      have k2 := k1.step s2
      have in2 : ∀ q ∈ L, q.2 ∈ nss := fun q hq => by
        rw [← e2]
        exact List.mem_map.mpr ⟨q, sub q hq, rfl⟩
      refine ⟨a, L, rfl, upd_same, fun p hp => ⟨sqt_up s2.sub (e3 p (sub p hp)), two _ (in2 p hp)⟩, fun L2 p2 sub2 len2 hp2 => ?_⟩
      have s3 := k2.layO (o := .lst (L2.map fun q => V.ref q.1)) hp2
      refine q G1 _ p2 _ _ t1 (s1.trans (s2.trans s3)) (fresh_of (s1.trans s2) hp2) (none_of k2 hp2) upd_same (rows_back L2 fun r hr => e3 r (sub r (sub2 r hr))) (p _ (fun ns hns => ?_) (by rw [List.length_map]; exact len2))
      obtain ⟨r, hr, rfl⟩ := List.mem_map.mp hns
      exact in2 r (sub2 r hr)
end
end Dl
end
section
set_option maxRecDepth 100000
set_option maxHeartbeats 4000000
namespace Dl
open PySem PySem.Spec PyProof.Rows L2
mutual
theorem Fin.noD : ∀ x : PyData, Fin x → x.hasDict = false
  | .none, _ => by simp only [PyData.hasDict]
  | .bool _, _ => by simp only [PyData.hasDict]
  | .int _, _ => by simp only [PyData.hasDict]
  | .str _, _ => by simp only [PyData.hasDict]
  | .list xs, h => by
    simp only [PyData.hasDict]
    exact FinA.noD xs h
  | .tuple xs, h => by
    simp only [PyData.hasDict]
    exact FinA.noD xs h
  | .dict _, h => h.elim
theorem FinA.noD : ∀ xs : List PyData, FinA xs → PyData.hasDictAll xs = false
  | [], _ => by simp only [PyData.hasDictAll]
  | x :: xs, h => by
    simp only [PyData.hasDictAll]
    rw [Fin.noD x h.1, FinA.noD xs h.2]
    rfl
end
section
variable {X : Cx} {Wo : WO} {M : Md X.KK Wo} {ρ : List B} {t : Rs} {e a b : Expr} {pos p : Pos} {x : Str} {k j : Nat} {S : List B → Rs → (B → Rs → Prop) → Prop}
theorem jd_repr {P : PyData → Rs → Prop} (hr : Room k X.A) (hg0 : X.A.guards = some []) (hm : X.mg "repr" = none) (h : JD M e ρ t fun y t1 => Fin y ∧ sz y ≤ 55000 ∧ y.depth ≤ 60 ∧ P (.str y.shown) t1) (hg : Gl X "repr" := by rfl)
    (h3 : starEach [e] X.env = (false, eval e X.env) :: starEach [] X.env := by rfl) : JD M (.Call (.Name "repr" p) [e] [] pos) ρ t P :=
  jd_of (pe_callB (cr_repr hr hg0) hg hm (by decide +kernel) (pa_cons peT pa_nil h3) (by decide) (by decide) h3 rfl) fun σ G H S Q q => h σ G H S _ fun G1 H1 v y t1 s1 d1 ⟨fy, sy, dy, p1⟩ => by
    refine ⟨v, y, rfl, De.dp _ _ (Fin.noD y fy) (De.up (S.step s1).ok.sub _ _ d1), Fin.show_ y fy, Fin.noD y fy, by omega, ?_, fun i e => ?_, q G1 H1 _ _ t1 s1 (.str _) p1⟩
    · have := Fin.len y fy
      rw [sizeLine_eq]
      omega
    · subst e
      have f1 : i.natAbs < 2 ^ 256 := fy
      by_cases z : i.natAbs = 0
      · rw [z]
        decide
      · have := (Nat.log2_lt z).mpr f1
        omega
theorem jt_neS {P : Bool → Rs → Prop} (h : JD M a ρ t fun x t1 => ∃ y, x = .str y ∧ JD M b ρ t1 fun z t2 => ∃ u, z = .str u ∧ P (!decide (y = u)) t2) : JT M (.Compare a [.NotEq] [b] pos) ρ t P :=
  jt_cmp op_ne (nomark _) (h.imp fun x _ ⟨y, e, h1⟩ => h1.imp fun z _ ⟨u, e2, q⟩ => by
    subst e e2
    intro G H v w k hv hw Q r
    rw [hv.strE, hw.strE]
    have e3 : (!decide (V.str y = V.str u)) = !decide (y = u) := by
      by_cases hy : y = u
      · rw [decide_eq_true hy, decide_eq_true (by rw [hy])]
      · rw [decide_eq_false hy, decide_eq_false (fun z => hy (V.str.inj z))]
    exact ⟨rfl, by rw [e3]; exact keep k r (.bl _) ⟨_, rfl, q⟩⟩)
theorem jd_call0 {P : PyData → Rs → Prop} (D : Def X.prog X.w X.K Wo X.mg X.base k x 0 S) (hr : Room j X.A) (hk : k ≤ j) (hg : Gl X x) (h : S [] t fun b t2 => ∃ y, b = .d y ∧ P y t2)
    (h2 : (x == ("__debug__" : Str)) = false := by decide) : JD M (.Call (.Name x p) [] [] pos) ρ t P := by
  obtain ⟨f, fd, ps, F, hm, kp, hb⟩ := D.ex
  refine jd_of (pe_call0 F (hr.mono hk) hg hm kp hb .nil pass0 h2) fun σ G H S Q q => ?_
  show spD X.KK Wo 0 _ ([] ++ []) H Q E0
  refine ⟨M, G, [], t, _, S.ok, .nil, rfl, h, fun G2 H2 v z t2 s2 d2 ⟨y, ey, py⟩ => ?_, fun G2 H2 l ws xs t2 s2 n g e a ⟨y, ey, py⟩ => (by cases ey)⟩
  cases ey
  exact q G2 H2 v z t2 s2 d2 py
end
end Dl
end
section
set_option maxRecDepth 100000
set_option maxHeartbeats 4000000
namespace Dz
open PySem PySem.Spec PyProof.Rows L2 Dl
/-! ### zip of any tuples: what one turn does -/
/-- the zip at b + n + 2 of the tuples ls, ahead of turn i -/
structure Zs (h : Heap) (b : Addr) (ls : List Addr) (i : Nat) : Prop where
  z : ∃ f0 f1, h.get? (b + ls.length + 2) = some { cls := .type "zip", dict := none, data := .fields #[f0, f1, .bool false, .ref (b + ls.length), .ref (b + ls.length + 1)], slots := #[] } ∧ (f0 = .none ∨ ∃ a : Nat, f0 = rawInt a)
  ti : h.get? (b + ls.length) = some { cls := .type "tuple", data := .seq ((List.range ls.length).map fun k => Value.ref (b + k)).toArray }
  to : ∃ vs : Array Value, vs.size = ls.length ∧ h.get? (b + ls.length + 1) = some { cls := .type "tuple", data := .seq vs }
  it : ∀ (k : Nat) (l : Addr), ls[k]? = some l → h.IsTupleIter (b + k) l i
/-- what is neither the zip nor its own stays -/
def Far (b n : Nat) (h h' : Heap) : Prop := ∀ c o, (c < b ∨ b + n + 2 < c) → h.get? c = some o → h'.get? c = some o
theorem Far.refl (b n : Nat) (h : Heap) : Far b n h h := fun _ _ _ e => e
theorem Far.trans {b n : Nat} {h h1 h2 : Heap} (x : Far b n h h1) (y : Far b n h1 h2) : Far b n h h2 := fun c o q e => y c o q (x c o q e)
theorem Far.same {b n : Nat} {h h1 : Heap} {a : Addr} (x : Heap.SameBut a h h1) (q : b ≤ a) (q2 : a ≤ b + n + 2) : Far b n h h1 := fun c o hc e => (x.2 c fun z => by
  subst z
  rcases hc with hc | hc
  · exact absurd (Nat.lt_of_lt_of_le hc q) (Nat.lt_irrefl _)
  · exact absurd (Nat.lt_of_lt_of_le hc q2) (Nat.lt_irrefl _)).trans e
section
variable {prog : Program} {w : World} {A : Around} {E : Value → Shared → Prop} {s : Shared}
theorem le2 {b n k : Nat} (h : k < n) : b + k ≤ b + n + 2 := by omega
theorem ne0 {b n k : Nat} (h : k < n) : b + n ≠ b + k := by omega
theorem ne1 {b n k : Nat} (h : k < n) : b + n + 1 ≠ b + k := by omega
theorem ne2 {b n k : Nat} (h : k < n) : b + n + 2 ≠ b + k := by omega
theorem idx_at {n b k : Nat} (h : k < n) : ((List.range n).map fun k => Value.ref (b + k))[k]? = some (Value.ref (b + k)) := by simp [h]
/-- the objects of the zip while it draws: the first k iterators are drawn -/
structure Zd (s0 : Shared) (b : Nat) (ls : List Addr) (i k : Nat) (xs : List Value) (h : Heap) (f0 : Value) (own : Bool) : Prop where
  z : ∃ f1, h.get? (b + ls.length + 2) = some { cls := .type "zip", dict := none, data := .fields #[f0, f1, .bool false, .ref (b + ls.length), .ref (b + ls.length + 1)], slots := #[] }
  ti : h.get? (b + ls.length) = some { cls := .type "tuple", data := .seq ((List.range ls.length).map fun k => Value.ref (b + k)).toArray }
  to : ∃ vs : Array Value, vs.size = ls.length ∧ h.get? (b + ls.length + 1) = some { cls := .type "tuple", data := .seq vs } ∧ (own = true → ∀ j, j < k → vs[j]? = xs[j]?)
  it : ∀ (j : Nat) (l : Addr), ls[j]? = some l → h.IsTupleIter (b + j) l (if j < k then i + 1 else i)
  far : Far b ls.length s0.heap h
  sz : h.objs.size = s0.heap.objs.size
theorem iter_at {h h' : Heap} {it l : Addr} {i : Nat} (x : h.IsTupleIter it l i) (e : ∀ o, h.get? it = some o → h'.get? it = some o) : h'.IsTupleIter it l i := x.at e
section
variable {prog : Program} {w : World} {A : Around} {E : Value → Shared → Prop} {s0 : Shared} {b i : Nat} {ls : List Addr} {arr : Nat → Array Value} {xs : List Value}
/-- one iterator is drawn -/
theorem Zd.draw {k : Nat} {f0 : Value} {own : Bool} {h : Heap} {Q : Value → Shared → Prop} (D : Zd s0 b ls i k xs h f0 own) (hk : k < ls.length)
    (lt : ∀ (k : Nat) (l : Addr), ls[k]? = some l → l < b) (tup : ∀ (k : Nat) (l : Addr), ls[k]? = some l → s0.heap.IsTuple l (arr k)) (hx : ∀ k : Nat, k < ls.length → ∃ x, xs[k]? = some x ∧ (arr k)[i]? = some x)
    (hQ : ∀ (h2 : Heap) (x : Value), xs[k]? = some x → Zd s0 b ls i (k + 1) xs h2 f0 false → (own = true → ∃ vs : Array Value, vs.size = ls.length ∧ h2.get? (b + ls.length + 1) = some { cls := .type "tuple", data := .seq vs } ∧ ∀ j, j < k → vs[j]? = xs[j]?) → Q x { s0 with heap := h2 }) :
    wpAny (model prog w) A (Builtin.SmallTypes.nextOf (.ref (b + k))) Q E { s0 with heap := h } := by
  obtain ⟨x, ex, ea⟩ := hx k hk
  have el : ls[k]? = some ls[k] := List.getElem?_eq_getElem hk
  have hit := D.it k _ el
  rw [if_neg (Nat.lt_irrefl k)] at hit
  obtain ⟨o, ho, hc, n, hd⟩ := tup k _ el
  have tl : h.IsTuple ls[k] (arr k) := ⟨o, D.far _ _ (.inl (lt k _ el)) ho, hc, n, hd⟩
  refine RZ.nextOf_tuple_item (s := { s0 with heap := h }) hit tl ea fun h2 hit2 sb => ?_
  have keep : ∀ (c : Addr) (o : Obj), c ≠ b + k → h.get? c = some o → h2.get? c = some o := fun c o hc e => sb.extBut c o hc e
  obtain ⟨f1, hz⟩ := D.z
  obtain ⟨vs, hvs, hto, hown⟩ := D.to
  refine hQ h2 x ex ⟨⟨f1, keep _ _ (ne2 hk) hz⟩, keep _ _ (ne0 hk) D.ti, ⟨vs, hvs, keep _ _ (ne1 hk) hto, fun z => by cases z⟩, fun j l ej => ?_, D.far.trans (Far.same sb (Nat.le_add_right b k) (le2 hk)), sb.1.trans D.sz⟩ fun hw => ⟨vs, hvs, keep _ _ (ne1 hk) hto, hown hw⟩
  by_cases hjk : j = k
  · subst hjk
    rw [el] at ej
    cases ej
    rw [if_pos (Nat.lt_succ_self j)]
    exact hit2
  · have := D.it j l ej
    have e : (if j < k + 1 then i + 1 else i) = (if j < k then i + 1 else i) := by
      by_cases q : j < k
      · rw [if_pos q, if_pos (by omega)]
      · rw [if_neg q, if_neg (by omega)]
    rw [e]
    exact this.at fun o e => keep _ o (fun z => hjk (Nat.add_left_cancel z)) e
end
section
variable {prog : Program} {w : World} {A : Around} {E : Value → Shared → Prop} {s : Shared}
theorem wpAny_alive {M : Model} {a : Addr} {Q : Option Obj → Shared → Prop} (h : Q (s.heap.get? a) s) : wpAny M A (loadIfAlive a) Q E s := fun Γ p _ => by
  unfold loadIfAlive
  rw [Sem.wp_loadIfAlive]
  exact h
/-- whether the tuple handed out before is free -/
theorem free_or {b n : Nat} {f0 f1 : Value} {t u : Value} {Q : Bool → Shared → Prop} (hz : s.heap.get? (b + n + 2) = some { cls := .type "zip", dict := none, data := .fields #[f0, f1, .bool false, t, u], slots := #[] }) (hf : f0 = .none ∨ ∃ a : Nat, f0 = rawInt a)
    (h1 : Q true s) (h2 : ∀ (h' : Heap) (f1' : Value), h'.get? (b + n + 2) = some { cls := .type "zip", dict := none, data := .fields #[f0, f1', .bool false, t, u], slots := #[] } → Heap.SameBut (b + n + 2) s.heap h' → Q false { s with heap := h' }) :
    wpAny (model prog w) A (Builtin.SmallTypes.ownedTupleIsFree (.ref (b + n + 2))) Q E s := by
  unfold Builtin.SmallTypes.ownedTupleIsFree
  refine wpAny_bind (wpAny_field hz rfl (x := f0) rfl ?_)
  rcases hf with rfl | ⟨a, rfl⟩
  · exact wpAny_pure h1
  · show wpAny _ _ (loadIfAlive ((a : Int).toNat) >>= _) _ _ _
    refine wpAny_bind (wpAny_alive ?_)
    cases e : s.heap.get? ((a : Int).toNat) with
    | none => exact wpAny_pure h1
    | some o =>
      show wpAny _ _ (field (.ref (b + n + 2)) 1 >>= _) _ _ _
      refine wpAny_bind (wpAny_field hz rfl (x := f1) rfl ?_)
      by_cases hb : (f1 != Value.bool true) = true
      · rw [if_pos hb]
        refine wpAny_bind (wpAny_setField_rec hz (by simp) fun h' hz' hs' => wpAny_pure ?_)
        exact h2 h' _ hz' hs'
      · rw [if_neg hb]
        refine wpAny_pure ?_
        exact h2 s.heap f1 hz (Heap.SameBut.refl _ _)
theorem zip_at {n b k : Nat} {x : Value} {kx : Nat} {rest : List (Value × Nat)} (h : (x, kx) :: rest = (((List.range n).map fun k => Value.ref (b + k)).zipIdx).drop k) : k < n ∧ x = .ref (b + k) ∧ kx = k ∧ rest = (((List.range n).map fun k => Value.ref (b + k)).zipIdx).drop (k + 1) := by
  have hk : k < n := by
    by_cases q : k < n
    · exact q
    · rw [List.drop_eq_nil_of_le (by simp; omega)] at h
      cases h
  have e : (((List.range n).map fun k => Value.ref (b + k)).zipIdx)[k]? = some (Value.ref (b + k), k) := by simp [hk]
  obtain ⟨hlt, e2⟩ := List.getElem?_eq_some_iff.mp e
  rw [List.drop_eq_getElem_cons hlt, e2] at h
  cases h
  exact ⟨hk, rfl, rfl, rfl⟩
theorem zn_next {b i : Nat} {ls : List Addr} {arr : Nat → Array Value} {xs : List Value} {Q : Value → Shared → Prop} (S : Zs s.heap b ls i) (pos : 0 < ls.length) (few : ls.length ≤ 1000)
    (lt : ∀ (k : Nat) (l : Addr), ls[k]? = some l → l < b) (tup : ∀ (k : Nat) (l : Addr), ls[k]? = some l → s.heap.IsTuple l (arr k)) (hx : ∀ k : Nat, k < ls.length → ∃ x, xs[k]? = some x ∧ (arr k)[i]? = some x) (hl : xs.length = ls.length)
    (hQ : ∀ h', Zs h' b ls (i + 1) → h'.get? s.heap.objs.size = some { cls := .type "tuple", data := .seq xs.toArray } → h'.objs.size = s.heap.objs.size + 1 → Far b ls.length s.heap h' → Q (.ref s.heap.objs.size) { s with heap := h' }) :
    wpAny (model prog w) A (Builtin.«zip.__next__» ⟨[.ref (b + ls.length + 2)], []⟩) (fun fin s' => ∃ v, fin = .done (.ret v) ∧ Q v s') E s := by
  obtain ⟨f0, f1, hz, hf0⟩ := S.z
  have hti := S.ti
  obtain ⟨vs, hvs, hto⟩ := S.to
  have hzl : b + ls.length + 2 < s.heap.objs.size := Heap.lt_size hz
  show wpAny _ _ (field (.ref (b + ls.length + 2)) 2 >>= _) _ _ _
  refine wpAny_bind (wpAny_field hz rfl (x := .bool false) rfl ?_)
  show wpAny _ _ (field (.ref (b + ls.length + 2)) 3 >>= _) _ _ _
  refine wpAny_bind (wpAny_field hz rfl (x := .ref (b + ls.length)) rfl ?_)
  refine wpAny_bind (wpAny_seqItems hti rfl ?_)
  have ne : (((List.range ls.length).map fun k => Value.ref (b + k)).toArray).isEmpty = false := by
    rw [← Bool.not_eq_true, Array.isEmpty_iff_size_eq_zero]
    simp
    intro z
    rw [z] at pos
    cases pos
  simp only [ne]
  show wpAny _ _ (Builtin.SmallTypes.ownedTupleIsFree (.ref (b + ls.length + 2)) >>= _) _ _ _
  refine wpAny_bind (free_or hz hf0 ?_ fun h₁ f1' hz₁ hs₁ => ?_)
  · simp only [if_true]
    refine wpAny_bind (wpAny_rule ?_)
    refine wpAny_bind (wpAny_field hz rfl (x := .ref (b + ls.length + 1)) rfl ?_)
    refine wpAny_bind (wpAny_setField_rec hz (by simp) fun h₁ hz₁ hs₁ => ?_)
    have up : ∀ (c : Addr) (o : Obj), c ≠ b + ls.length + 2 → s.heap.get? c = some o → h₁.get? c = some o := fun c o hc e => hs₁.extBut c o hc e
    refine wpAny_bind (wpAny_mono (wpAny_forIn_list _ (fun rest st s' => st = (none, ()) ∧ ∃ k h', k ≤ ls.length ∧ rest = (((List.range ls.length).map fun k => Value.ref (b + k)).zipIdx).drop k ∧ s' = { s with heap := h' } ∧ Zd s b ls i k xs h' .ellipsis true)
      (fun st s' => st = (none, ()) ∧ ∃ h', s' = { s with heap := h' } ∧ Zd s b ls i ls.length xs h' .ellipsis true) ?turn ?fin _ _ ?start) ?aft fun _ _ e => e)
    case start =>
      refine ⟨rfl, 0, h₁, Nat.zero_le _, rfl, rfl, ⟨⟨f1, hz₁⟩, up _ _ (Nat.ne_of_lt (by show b + ls.length < b + ls.length + 2; omega)) hti, ⟨vs, hvs, up _ _ (Nat.ne_of_lt (by show b + ls.length + 1 < b + ls.length + 2; omega)) hto, fun _ j hj => absurd hj (Nat.not_lt_zero j)⟩, fun j l ej => ?_, Far.same hs₁ (by show b ≤ b + ls.length + 2; omega) (Nat.le_refl _), hs₁.1⟩⟩
      rw [if_neg (Nat.not_lt_zero j)]
      have hj : j < ls.length := (List.getElem?_eq_some_iff.mp ej).1
      exact (S.it j l ej).at fun o e => up _ o (Ne.symm (ne2 hj)) e
    case fin =>
      rintro st s' ⟨e, k, h', hk, hr, es, D⟩
      have : k = ls.length := by
        have := congrArg List.length hr
        simp at this
        omega
      subst this
      exact ⟨e, h', es, D⟩
    case turn =>
      rintro ⟨x, kx⟩ rest st s' ⟨rfl, k, h', hk, hr, rfl, D⟩
      obtain ⟨hkl, rfl, rfl, hr2⟩ := zip_at hr
      refine wpAny_bind (wpAny_onRaise ?_)
      show wpAny _ _ (Builtin.SmallTypes.nextOf (.ref (b + kx)) >>= _) _ _ _
      refine wpAny_bind (D.draw hkl lt tup hx fun h2 x ex D2 own => wpAny_pure ?_)
      obtain ⟨ws, hws, hto2, hown⟩ := own rfl
      refine wpAny_bind (wpAny_seqItems hto2 rfl ?_)
      refine wpAny_bind (wpAny_updateSeq hto2 rfl ?_ (by rw [hws, sizeLine_eq]; omega) (by rw [Array.size_setIfInBounds, hws, sizeLine_eq]; omega))
      refine wpAny_bind (wpAny_letGo (wpAny_pure ?_))
      have sb : Heap.SameBut (b + ls.length + 1) h2 (h2.update (b + ls.length + 1) (Obj.mapSeq (·.setIfInBounds kx x))) := Heap.SameBut.update ..
      have up2 : ∀ (c : Addr) (o : Obj), c ≠ b + ls.length + 1 → h2.get? c = some o → (h2.update (b + ls.length + 1) (Obj.mapSeq (·.setIfInBounds kx x))).get? c = some o := fun c o hc e => sb.extBut c o hc e
      obtain ⟨g1, hz2⟩ := D2.z
      refine ⟨rfl, kx + 1, _, hkl, hr2, rfl, ⟨⟨g1, up2 _ _ (Nat.ne_of_gt (by show b + ls.length + 1 < b + ls.length + 2; omega)) hz2⟩, up2 _ _ (Nat.ne_of_lt (by show b + ls.length < b + ls.length + 1; omega)) D2.ti, ⟨ws.setIfInBounds kx x, by rw [Array.size_setIfInBounds, hws], ?_, fun _ j hj => ?_⟩, fun j l ej => ?_, D2.far.trans (Far.same sb (by show b ≤ b + ls.length + 1; omega) (by show b + ls.length + 1 ≤ b + ls.length + 2; omega)), sb.1.trans D2.sz⟩⟩
      · rw [Heap.get?_update_self _ hto2 rfl]
        simp [Obj.mapSeq]
      · by_cases hjk : j = kx
        · subst hjk
          rw [ex, Array.getElem?_setIfInBounds_self_of_lt (by rw [hws]; exact hkl)]
        · rw [Array.getElem?_setIfInBounds_ne (Ne.symm hjk)]
          exact hown j (by omega)
      · have hj : j < ls.length := (List.getElem?_eq_some_iff.mp ej).1
        exact (D2.it j l ej).at fun o e => up2 _ o (Ne.symm (ne1 hj)) e
    case aft =>
      rintro st s' ⟨rfl, h', rfl, D⟩
      obtain ⟨ws, hws, hto2, hown⟩ := D.to
      obtain ⟨g1, hz2⟩ := D.z
      have exs : ws.toList = xs := List.ext_getElem? fun j => by
        by_cases hj : j < ls.length
        · rw [← hown rfl j hj]
          simp
        · rw [List.getElem?_eq_none (by simp; omega), List.getElem?_eq_none (by omega)]
      refine wpAny_bind (wpAny_seqItems hto2 rfl ?_)
      refine wpAny_bind (wpAny_newTuple ?_ (by rw [exs, hl, sizeLine_eq]; omega))
      rw [exs]
      have hsz := D.sz
      show wpAny _ _ (Builtin.SmallTypes.ownedTupleHandOut (.ref (b + ls.length + 2)) (.ref h'.objs.size) >>= _) _ _ _
      refine wpAny_bind ?_
      unfold Builtin.SmallTypes.ownedTupleHandOut
      have new : (h'.push { cls := .type "tuple", data := .seq xs.toArray }).get? h'.objs.size = some { cls := .type "tuple", data := .seq xs.toArray } := Heap.get?_push_size _ rfl
      refine wpAny_bind (wpAny_setField_rec (s := { s with heap := h'.push { cls := .type "tuple", data := .seq xs.toArray } }) (Heap.get?_push_of_some _ hz2) (by simp) fun h₃ hz₃ hs₃ => ?_)
      refine wpAny_setField_rec (s := { s with heap := h₃ }) hz₃ (by simp) fun h₄ hz₄ hs₄ => ?_
      have up4 : ∀ (c : Addr) (o : Obj), c ≠ b + ls.length + 2 → h'.get? c = some o → h₄.get? c = some o := fun c o hc e => hs₄.extBut c o hc (hs₃.extBut c o hc (Heap.get?_push_of_some _ e))
      have hne : h'.objs.size ≠ b + ls.length + 2 := by
        rw [hsz]
        exact Nat.ne_of_gt hzl
      have new4 := hs₄.extBut _ _ hne (hs₃.extBut _ _ hne new)
      have sz4 : h₄.objs.size = s.heap.objs.size + 1 := by rw [hs₄.1, hs₃.1, Heap.size_push, hsz]
      refine wpAny_pure ⟨_, rfl, ?_⟩
      show Q (.ref h'.objs.size) _
      rw [hsz] at new4 ⊢
      refine hQ h₄ ⟨⟨_, _, hz₄, .inr ⟨h'.objs.size, rfl⟩⟩, up4 _ _ (Nat.ne_of_lt (by show b + ls.length < b + ls.length + 2; omega)) D.ti, ⟨ws, hws, up4 _ _ (Nat.ne_of_lt (by show b + ls.length + 1 < b + ls.length + 2; omega)) hto2⟩, fun j l ej => ?_⟩ new4 sz4 fun c o hc e => ?_
      · have hj : j < ls.length := (List.getElem?_eq_some_iff.mp ej).1
        have := D.it j l ej
        rw [if_pos hj] at this
        exact this.at fun o e => up4 _ o (Ne.symm (ne2 hj)) e
      · exact up4 c o (fun z => by
          subst z
          rcases hc with hc | hc
          · exact absurd hc (by show ¬ (b + ls.length + 2 < b); omega)
          · exact absurd hc (Nat.lt_irrefl _)) (D.far c o hc e)
  · simp only [Bool.false_eq_true, if_false]
    have up : ∀ (c : Addr) (o : Obj), c ≠ b + ls.length + 2 → s.heap.get? c = some o → h₁.get? c = some o := fun c o hc e => hs₁.extBut c o hc e
    refine wpAny_bind (wpAny_mono (wpAny_forIn_array' _ (fun rest st s' => ∃ k h', k ≤ ls.length ∧ rest = ((List.range ls.length).map fun k => Value.ref (b + k)).drop k ∧ st = (none, (xs.take k).toArray) ∧ s' = { s with heap := h' } ∧ Zd s b ls i k xs h' f0 false)
      (fun st s' => st = (none, xs.toArray) ∧ ∃ h', s' = { s with heap := h' } ∧ Zd s b ls i ls.length xs h' f0 false) ?turn ?fin _ _ ?start) ?aft fun _ _ e => e)
    case start =>
      refine ⟨0, h₁, Nat.zero_le _, rfl, rfl, rfl, ⟨⟨f1', hz₁⟩, up _ _ (Nat.ne_of_lt (by show b + ls.length < b + ls.length + 2; omega)) hti, ⟨vs, hvs, up _ _ (Nat.ne_of_lt (by show b + ls.length + 1 < b + ls.length + 2; omega)) hto, fun z => by cases z⟩, fun j l ej => ?_, Far.same hs₁ (by show b ≤ b + ls.length + 2; omega) (Nat.le_refl _), hs₁.1⟩⟩
      rw [if_neg (Nat.not_lt_zero j)]
      have hj : j < ls.length := (List.getElem?_eq_some_iff.mp ej).1
      exact (S.it j l ej).at fun o e => up _ o (Ne.symm (ne2 hj)) e
    case fin =>
      rintro st s' ⟨k, h', hk, hr, e, es, D⟩
      have : k = ls.length := by
        have := congrArg List.length hr
        simp at this
        omega
      subst this
      rw [List.take_of_length_le (by omega)] at e
      exact ⟨e, h', es, D⟩
    case turn =>
      rintro x rest st s' ⟨k, h', hk, hr, rfl, rfl, D⟩
      have hkl : k < ls.length := by
        by_cases q : k < ls.length
        · exact q
        · rw [List.drop_eq_nil_of_le (by simp; omega)] at hr
          cases hr
      have e := idx_at (b := b) hkl
      obtain ⟨hlt, e2⟩ := List.getElem?_eq_some_iff.mp e
      rw [List.drop_eq_getElem_cons hlt, e2] at hr
      cases hr
      refine wpAny_bind (wpAny_holding ?_)
      show wpAny _ _ (Builtin.SmallTypes.nextOf (.ref (b + k)) >>= _) _ _ _
      refine wpAny_bind (D.draw hkl lt tup hx fun h2 x ex D2 _ => wpAny_pure (wpAny_pure ?_))
      refine ⟨k + 1, h2, hkl, rfl, ?_, rfl, D2⟩
      have ht : xs.take (k + 1) = xs.take k ++ [x] := by
        rw [List.take_add_one, ex]
        rfl
      show (none, (xs.take k).toArray.push x) = _
      rw [ht]
      simp
    case aft =>
      rintro st s' ⟨rfl, h', rfl, D⟩
      have hsz := D.sz
      obtain ⟨g1, hz2⟩ := D.z
      obtain ⟨ws, hws, hto2, _⟩ := D.to
      refine wpAny_bind (wpAny_newTuple (wpAny_pure ⟨_, rfl, ?_⟩) (by show xs.length ≤ _; rw [hl, sizeLine_eq]; omega))
      show Q (.ref h'.objs.size) _
      have up4 : ∀ (c : Addr) (o : Obj), h'.get? c = some o → (h'.push { cls := .type "tuple", data := .seq xs.toArray }).get? c = some o := fun c o e => Heap.get?_push_of_some _ e
      have new4 : (h'.push { cls := .type "tuple", data := .seq xs.toArray }).get? h'.objs.size = some { cls := .type "tuple", data := .seq xs.toArray } := Heap.get?_push_size _ rfl
      have sz4 : (h'.push { cls := .type "tuple", data := .seq xs.toArray }).objs.size = s.heap.objs.size + 1 := by rw [Heap.size_push, hsz]
      rw [hsz] at new4 ⊢
      refine hQ _ ⟨⟨_, _, up4 _ _ hz2, hf0⟩, up4 _ _ D.ti, ⟨ws, hws, up4 _ _ hto2⟩, fun j l ej => ?_⟩ new4 sz4 fun c o hc e => up4 _ _ (D.far c o hc e)
      have hj : j < ls.length := (List.getElem?_eq_some_iff.mp ej).1
      have := D.it j l ej
      rw [if_pos hj] at this
      exact this.at fun o e => up4 _ o e
end
end
end Dz
end
section
set_option maxRecDepth 100000
set_option maxHeartbeats 4000000
namespace Dz
open PySem PySem.Spec PyProof.Rows L2 Dl
section
variable {prog : Program} {w : World} {A : Around} {E : Value → Shared → Prop} {s : Shared}
theorem zn_end {b i : Nat} {ls : List Addr} {its : Array Value} {Q : PySem.Fin → Shared → Prop} (hh : A.handled = none) (S : Zs s.heap b ls i) {l0 : Addr} (h0 : ls[0]? = some l0) (tup : s.heap.IsTuple l0 its) (hend : its[i]? = none)
    (hE : ∀ h' e, Far b ls.length s.heap h' → (∃ o, h'.get? e = some o ∧ o.cls = .type "StopIteration") → E (.ref e) { s with heap := h' }) :
    wpAny (model prog w) A (Builtin.«zip.__next__» ⟨[.ref (b + ls.length + 2)], []⟩) Q E s := by
  obtain ⟨f0, f1, hz, hf0⟩ := S.z
  have pos : 0 < ls.length := (List.getElem?_eq_some_iff.mp h0).1
  have hti := S.ti
  obtain ⟨vs, hvs, hto⟩ := S.to
  have hit := S.it 0 l0 h0
  have z0 : b ≠ b + ls.length + 2 := by omega
  show wpAny _ _ (field (.ref (b + ls.length + 2)) 2 >>= _) _ _ _
  refine wpAny_bind (wpAny_field hz rfl (x := .bool false) rfl ?_)
  show wpAny _ _ (field (.ref (b + ls.length + 2)) 3 >>= _) _ _ _
  refine wpAny_bind (wpAny_field hz rfl (x := .ref (b + ls.length)) rfl ?_)
  refine wpAny_bind (wpAny_seqItems hti rfl ?_)
  have ne : (((List.range ls.length).map fun k => Value.ref (b + k)).toArray).isEmpty = false := by
    rw [← Bool.not_eq_true, Array.isEmpty_iff_size_eq_zero]
    simp
    intro z
    rw [z] at pos
    cases pos
  have hd : ∃ r, (List.range ls.length).map (fun k => Value.ref (b + k)) = Value.ref b :: r := by
    cases e : ls.length with
    | zero => omega
    | succ m => exact ⟨_, by rw [List.range_succ_eq_map, List.map_cons]; rfl⟩
  obtain ⟨r, hr⟩ := hd
  simp only [ne]
  show wpAny _ _ (Builtin.SmallTypes.ownedTupleIsFree (.ref (b + ls.length + 2)) >>= _) _ _ _
  refine wpAny_bind (free_or hz hf0 ?_ fun h₁ f1' hz₁ hs₁ => ?_)
  · simp only [if_true]
    refine wpAny_bind (wpAny_rule ?_)
    refine wpAny_bind (wpAny_field hz rfl (x := .ref (b + ls.length + 1)) rfl ?_)
    refine wpAny_bind (wpAny_setField_rec hz (by simp) fun h₁ hz₁ hs₁ => ?_)
    rw [hr]
    simp only [List.zipIdx_cons, List.forIn_cons]
    refine wpAny_bind (wpAny_bind (wpAny_bind (wpAny_onRaise ?_)))
    show wpAny _ _ (Builtin.SmallTypes.nextOf (.ref b) >>= _) _ _ _
    obtain ⟨o, ho, hc, n, hdt⟩ := tup
    have hl : h₁.IsTuple l0 its := ⟨o, hs₁.extBut _ _ (fun z => by
      subst z
      rw [hz] at ho
      cases ho
      exact absurd (Value.type.inj hc) (by decide)) ho, hc, n, hdt⟩
    refine wpAny_bind (RZ.nextOf_tuple_end (s := { s with heap := h₁ }) hh (hit.at fun o e => hs₁.extBut _ _ z0 e) hl hend fun h₂ e hs₂ he => ?_)
    obtain ⟨oe, hoe, hce⟩ := he
    have hz₂ := hs₂ _ _ z0.symm hz₁
    have hez : e ≠ b + ls.length + 2 := fun z => by
      subst z
      rw [hz₂] at hoe
      cases hoe
      exact absurd (Value.type.inj hce) (by decide)
    refine wpAny_setField_rec (s := { s with heap := h₂ }) hz₂ (by simp) fun h₃ _ hs₃ => hE h₃ e (fun c o hc x => ?_) ⟨oe, hs₃.extBut _ _ hez hoe, hce⟩
    have c1 : c ≠ b + ls.length + 2 := fun z => by
      subst z
      rcases hc with q | q
      · exact absurd q (by show ¬ (b + ls.length + 2 < b); omega)
      · exact absurd q (Nat.lt_irrefl _)
    have c2 : c ≠ b := fun z => by
      subst z
      rcases hc with q | q
      · exact absurd q (Nat.lt_irrefl _)
      · exact absurd q (by show ¬ (c + ls.length + 2 < c); omega)
    exact hs₃.extBut _ _ c1 (hs₂ _ _ c2 (hs₁.extBut _ _ c1 x))
  · simp only [Bool.false_eq_true, if_false]
    rw [hr, ← Array.forIn_toList]
    simp only [List.forIn_cons]
    refine wpAny_bind (wpAny_bind (wpAny_bind (wpAny_holding ?_)))
    show wpAny _ _ (Builtin.SmallTypes.nextOf (.ref b) >>= _) _ _ _
    obtain ⟨o, ho, hc, n, hdt⟩ := tup
    have hl : h₁.IsTuple l0 its := ⟨o, hs₁.extBut _ _ (fun z => by
      subst z
      rw [hz] at ho
      cases ho
      exact absurd (Value.type.inj hc) (by decide)) ho, hc, n, hdt⟩
    refine wpAny_bind (RZ.nextOf_tuple_end (s := { s with heap := h₁ }) hh (hit.at fun o e => hs₁.extBut _ _ z0 e) hl hend fun h₂ e hs₂ he => ?_)
    refine hE h₂ e (fun c o hc x => ?_) he
    have c1 : c ≠ b + ls.length + 2 := fun z => by
      subst z
      rcases hc with q | q
      · exact absurd q (by show ¬ (b + ls.length + 2 < b); omega)
      · exact absurd q (Nat.lt_irrefl _)
    have c2 : c ≠ b := fun z => by
      subst z
      rcases hc with q | q
      · exact absurd q (Nat.lt_irrefl _)
      · exact absurd q (by show ¬ (c + ls.length + 2 < c); omega)
    exact hs₂ _ _ c2 (hs₁.extBut _ _ c1 x)
theorem zs_type {h : Heap} {b i : Nat} {ls : List Addr} (S : Zs h b ls i) {s : Shared} (e : s.heap = h) : s.TypeIs (.ref (b + ls.length + 2)) "zip" := by
  obtain ⟨f0, f1, hz, _⟩ := S.z
  exact ⟨_, by rw [e]; exact hz, rfl⟩
theorem next_item {b i : Nat} {ls : List Addr} {arr : Nat → Array Value} {xs : List Value} {Q : Option Value → Shared → Prop} (S : Zs s.heap b ls i) (pos : 0 < ls.length) (few : ls.length ≤ 1000)
    (lt : ∀ (k : Nat) (l : Addr), ls[k]? = some l → l < b) (tup : ∀ (k : Nat) (l : Addr), ls[k]? = some l → s.heap.IsTuple l (arr k)) (hx : ∀ k : Nat, k < ls.length → ∃ x, xs[k]? = some x ∧ (arr k)[i]? = some x) (hl : xs.length = ls.length)
    (hQ : ∀ h', Zs h' b ls (i + 1) → h'.get? s.heap.objs.size = some { cls := .type "tuple", data := .seq xs.toArray } → h'.objs.size = s.heap.objs.size + 1 → Far b ls.length s.heap h' → Q (some (.ref s.heap.objs.size)) { s with heap := h' }) :
    wpAny (model prog w) A (pyNext (.ref (b + ls.length + 2))) Q E s := by
  have hT := zs_type (s := s) S rfl
  unfold pyNext
  refine wpAny_bind (wpAny_attempt (wpAny_callSpecial?_slot (name := Str.ofString "__next__") hT F.slot_zip_next (wpAny_call_entry F.slot_zip_next hT F.entry_zip_next ?_ (F.args_zip_next_1 _))))
  exact zn_next S pos few lt tup hx hl fun h' a1 a2 a3 a4 => wpAny_pure (hQ h' a1 a2 a3 a4)
theorem next_end {b i : Nat} {ls : List Addr} {its : Array Value} {Q : Option Value → Shared → Prop} (hh : A.handled = none) (S : Zs s.heap b ls i) {l0 : Addr} (h0 : ls[0]? = some l0) (tup : s.heap.IsTuple l0 its) (hend : its[i]? = none)
    (hQ : ∀ h', Far b ls.length s.heap h' → Q none { s with heap := h' }) : wpAny (model prog w) A (pyNext (.ref (b + ls.length + 2))) Q E s := by
  have hT := zs_type (s := s) S rfl
  unfold pyNext
  refine wpAny_bind (wpAny_attempt (wpAny_callSpecial?_slot (name := Str.ofString "__next__") hT F.slot_zip_next (wpAny_call_entry F.slot_zip_next hT F.entry_zip_next (zn_end hh S h0 tup hend fun h' e hk he => ?_) (F.args_zip_next_1 _))))
  obtain ⟨o, ho, hc⟩ := he
  refine wpAny_bind (wpAny_isInstance (T := "StopIteration") (b := true) ⟨o, ho, hc⟩ isSubtype_stop ?_)
  exact wpAny_pure (hQ _ hk)
theorem iter_zn {b i : Nat} {ls : List Addr} {Q : Value → Shared → Prop} (S : Zs s.heap b ls i) (h : Q (.ref (b + ls.length + 2)) s) : wpAny (model prog w) A (pyIter (.ref (b + ls.length + 2))) Q E s := by
  have hT := zs_type (s := s) S rfl
  refine wpAny_pyIter_slot hT F.slot_zip_iter (wpAny_call_entry F.slot_zip_iter hT F.entry_zip_iter ?_ (F.args_zip_iter_1 _))
  show wpAny _ _ (ret (.ref (b + ls.length + 2))) _ _ s
  exact wpAny_pure ⟨_, rfl, "zip", _, hT, F.slot_zip_next.lookup, h⟩
/-! ### zip(..) of any number of tuples -/
theorem iterAll_tup {ls : List Addr} {Q : List Value → Shared → Prop} (tup : ∀ l ∈ ls, ∃ xs, s.heap.IsTuple l xs)
    (hQ : ∀ h', (∀ c o, s.heap.get? c = some o → h'.get? c = some o) → h'.objs.size = s.heap.objs.size + ls.length → (∀ (k : Nat) (l : Addr), ls[k]? = some l → h'.IsTupleIter (s.heap.objs.size + k) l 0) →
      Q ((List.range ls.length).map fun k => Value.ref (s.heap.objs.size + k)) { s with heap := h' }) :
    wpAny (model prog w) A (Builtin.SmallTypes.iterAll (ls.map Value.ref)) Q E s := by
  unfold Builtin.SmallTypes.iterAll
  refine wpAny_bind (wpAny_mono (wpAny_forIn_list _ (fun rest st s' => ∃ k h', k ≤ ls.length ∧ rest = (ls.map Value.ref).drop k ∧ st = (((List.range k).map fun k => Value.ref (s.heap.objs.size + k)).toArray) ∧ s' = { s with heap := h' } ∧ (∀ c o, s.heap.get? c = some o → h'.get? c = some o) ∧ h'.objs.size = s.heap.objs.size + k ∧ (∀ (j : Nat) (l : Addr), j < k → ls[j]? = some l → h'.IsTupleIter (s.heap.objs.size + j) l 0))
    (fun st s' => st = (((List.range ls.length).map fun k => Value.ref (s.heap.objs.size + k)).toArray) ∧ ∃ h', s' = { s with heap := h' } ∧ (∀ c o, s.heap.get? c = some o → h'.get? c = some o) ∧ h'.objs.size = s.heap.objs.size + ls.length ∧ (∀ (j : Nat) (l : Addr), ls[j]? = some l → h'.IsTupleIter (s.heap.objs.size + j) l 0)) ?turn ?fin _ _ ?start) ?aft fun _ _ e => e)
  case start => exact ⟨0, s.heap, Nat.zero_le _, rfl, rfl, rfl, fun _ _ e => e, rfl, fun j l h => absurd h (Nat.not_lt_zero j)⟩
  case fin =>
    rintro st s' ⟨k, h', hk, hr, e, es, a1, a2, a3⟩
    have : k = ls.length := by
      have := congrArg List.length hr
      simp at this
      omega
    subst this
    exact ⟨e, h', es, a1, a2, fun j l el => a3 j l (List.getElem?_eq_some_iff.mp el).1 el⟩
  case turn =>
    rintro x rest st s' ⟨k, h', hk, hr, rfl, rfl, a1, a2, a3⟩
    have hkl : k < ls.length := by
      by_cases q : k < ls.length
      · exact q
      · rw [List.drop_eq_nil_of_le (by simp; omega)] at hr
        cases hr
    rw [List.drop_eq_getElem_cons (by simpa using hkl)] at hr
    cases hr
    rw [List.getElem_map]
    obtain ⟨xs, o, ho, hc, n, hd⟩ := tup ls[k] (List.getElem_mem hkl)
    refine wpAny_bind (wpAny_holding (wpAny_pyIter_tuple (s := { s with heap := h' }) ⟨o, a1 _ _ ho, hc, n, hd⟩ (wpAny_pure ?_)))
    refine ⟨k + 1, _, hkl, rfl, ?_, rfl, fun c o e => Heap.get?_push_of_some _ (a1 c o e), ?_, fun j l hj ej => ?_⟩
    · show (((List.range k).map fun k => Value.ref (s.heap.objs.size + k)).toArray).push (.ref h'.objs.size) = _
      rw [a2, List.range_succ, List.map_append]
      simp
    · show (h'.push _).objs.size = _
      rw [Heap.size_push, a2]
      rfl
    · by_cases hjk : j = k
      · subst hjk
        rw [List.getElem?_eq_getElem hkl] at ej
        cases ej
        rw [← a2]
        exact ⟨_, Heap.get?_push_size _ rfl, rfl, rfl⟩
      · exact (a3 j l (by omega) ej).at fun o e => Heap.get?_push_of_some _ e
  case aft =>
    rintro st s' ⟨rfl, h', rfl, a1, a2, a3⟩
    exact wpAny_pure (hQ h' a1 a2 a3)
theorem new_zip (ls : List Addr) (few : ls.length ≤ 1000) : Meets (Builtin.«zip.__new__» ⟨.type "zip" :: ls.map Value.ref, []⟩) (fun _ R s => (∀ l ∈ ls, ∃ xs, s.heap.IsTuple l xs) ∧
    ∀ h', Zs h' s.heap.objs.size ls 0 → h'.objs.size = s.heap.objs.size + ls.length + 3 → (∀ c o, s.heap.get? c = some o → h'.get? c = some o) → R (.ok (.ret (.ref (s.heap.objs.size + ls.length + 2)))) { s with heap := h' }) :=
  .of_wp fun prog w A R s h => by
    obtain ⟨tup, hR⟩ := h
    have hsub := sub_zip
    have cls : wpAny (model prog w) A.in1 (Builtin.SmallTypes.newClass "zip" { pos := Value.type "zip" :: List.map Value.ref ls }) (fun a s' => a = (.type "zip", ls.map Value.ref) ∧ s' = s) (fun e s' => R (.error e) s') s := by
      simp only [Builtin.SmallTypes.newClass]
      refine wpAny_bind (m := isType _) (wpAny_pure ?_)
      simp only [Bool.not_true, Bool.false_eq_true, if_false]
      rw [hsub]
      refine wpAny_bind (wpAny_pure ?_)
      simp only [Bool.not_true, Bool.false_eq_true, if_false]
      exact wpAny_pure ⟨rfl, rfl⟩
    unfold Builtin.«zip.__new__»
    refine wpAny_bind (m := Builtin.SmallTypes.newClass "zip" _) (wpAny_mono cls ?_ fun _ _ e => e)
    rintro a s' ⟨rfl, rfl⟩
    show wpAny _ _ (Builtin.SmallTypes.iterAll (ls.map Value.ref) >>= _) _ _ _
    refine wpAny_bind (iterAll_tup tup fun h1 k1 z1 i1 => ?_)
    refine wpAny_bind (wpAny_newTuple ?_ (by simp; rw [sizeLine_eq]; omega))
    refine wpAny_bind (wpAny_newTuple ?_ (by simp; rw [sizeLine_eq]; omega))
    dsimp only
    generalize hb : s'.heap.objs.size = b at *
    have zA : (h1.push { cls := Value.type "tuple", data := Data.seq (List.map (fun k => Value.ref (b + k)) (List.range ls.length)).toArray }).objs.size = b + ls.length + 1 := by rw [Heap.size_push, z1]
    generalize hA : h1.push { cls := Value.type "tuple", data := Data.seq (List.map (fun k => Value.ref (b + k)) (List.range ls.length)).toArray } = hpA at *
    have gA : hpA.get? (b + ls.length) = some { cls := Value.type "tuple", data := Data.seq (List.map (fun k => Value.ref (b + k)) (List.range ls.length)).toArray } := by
      rw [← hA, ← z1]
      exact Heap.get?_push_size _ rfl
    have upA : ∀ c o, h1.get? c = some o → hpA.get? c = some o := fun c o e => by
      rw [← hA]
      exact Heap.get?_push_of_some _ e
    generalize hB : hpA.push { cls := Value.type "tuple", data := Data.seq (List.map (fun x => Value.none) (List.map (fun k => Value.ref (b + k)) (List.range ls.length))).toArray } = hpB
    have zB : hpB.objs.size = b + ls.length + 2 := by rw [← hB, Heap.size_push, zA]
    have gB : hpB.get? (b + ls.length + 1) = some { cls := Value.type "tuple", data := Data.seq (List.map (fun x => Value.none) (List.map (fun k => Value.ref (b + k)) (List.range ls.length))).toArray } := by
      rw [← hB, ← zA]
      exact Heap.get?_push_size _ rfl
    have upB : ∀ c o, hpA.get? c = some o → hpB.get? c = some o := fun c o e => by
      rw [← hB]
      exact Heap.get?_push_of_some _ e
    refine wpAny_bind (m := Builtin.SmallTypes.newRecord _ _) ?_
    unfold Builtin.SmallTypes.newRecord
    refine wpAny_newObj_type ?_ (by show (Array.size _) ≤ _; simp [Builtin.SmallTypes.ownedTupleFields, sizeLine_eq])
    refine wpAny_pure ⟨_, rfl, ?_⟩
    show R (.ok (.ret (.ref hpB.objs.size))) _
    rw [zB]
    have gC : (hpB.push { cls := .type "zip", data := .fields #[.none, .bool false, .bool false, .ref (b + ls.length), .ref (b + ls.length + 1)] }).get? (b + ls.length + 2) = some { cls := .type "zip", data := .fields #[.none, .bool false, .bool false, .ref (b + ls.length), .ref (b + ls.length + 1)] } := by
      rw [← zB]
      exact Heap.get?_push_size _ rfl
    have upC : ∀ c o, hpB.get? c = some o → (hpB.push { cls := .type "zip", data := .fields #[.none, .bool false, .bool false, .ref (b + ls.length), .ref (b + ls.length + 1)] }).get? c = some o := fun c o e => Heap.get?_push_of_some _ e
    have fin := hR (hpB.push { cls := .type "zip", data := .fields #[.none, .bool false, .bool false, .ref (b + ls.length), .ref (b + ls.length + 1)] }) ⟨⟨_, _, gC, .inl rfl⟩, upC _ _ (upB _ _ gA), ⟨_, by simp, upC _ _ gB⟩, fun k l e => (i1 k l e).at fun o e => upC _ _ (upB _ _ (upA _ _ e))⟩ (by rw [Heap.size_push, zB]) fun c o e => upC _ _ (upB _ _ (upA _ _ (k1 _ _ e)))
    rw [z1, zA]
    exact fin
theorem typeCall_zn : ∀ vs : List Value, vs.length ≤ 9 → checkTypeCall "zip" ⟨vs, []⟩ = pure ()
  | [], _ => by kernel_rfl
  | [_], _ => by kernel_rfl
  | [_, _], _ => by kernel_rfl
  | [_, _, _], _ => by kernel_rfl
  | [_, _, _, _], _ => by kernel_rfl
  | [_, _, _, _, _], _ => by kernel_rfl
  | [_, _, _, _, _, _], _ => by kernel_rfl
  | [_, _, _, _, _, _, _], _ => by kernel_rfl
  | [_, _, _, _, _, _, _, _], _ => by kernel_rfl
  | [_, _, _, _, _, _, _, _, _], _ => by kernel_rfl
  | _ :: _ :: _ :: _ :: _ :: _ :: _ :: _ :: _ :: _ :: _, h => absurd h (by simp)
theorem newCall_zn : ∀ vs : List Value, vs.length ≤ 9 → checkBuiltinCall "zip.__new__" ⟨.type "zip" :: vs, []⟩ = pure ()
  | [], _ => by kernel_rfl
  | [_], _ => by kernel_rfl
  | [_, _], _ => by kernel_rfl
  | [_, _, _], _ => by kernel_rfl
  | [_, _, _, _], _ => by kernel_rfl
  | [_, _, _, _, _], _ => by kernel_rfl
  | [_, _, _, _, _, _], _ => by kernel_rfl
  | [_, _, _, _, _, _, _], _ => by kernel_rfl
  | [_, _, _, _, _, _, _, _], _ => by kernel_rfl
  | [_, _, _, _, _, _, _, _, _], _ => by kernel_rfl
  | _ :: _ :: _ :: _ :: _ :: _ :: _ :: _ :: _ :: _ :: _, h => absurd h (by simp)
theorem init_zn (obj : Value) : ∀ vs : List Value, vs.length ≤ 9 → argsOk "object.__init__" ⟨obj :: vs, []⟩ := fun vs h => by
  unfold argsOk
  rw [signature?_of (id := "object.__init__") (n := ['_', '_', 't', 'i', 'n', 'i', '_', '_']) (o := ['t', 'c', 'e', 'j', 'b', 'o']) (by kernel_rfl) PySem.F.owner_object]
  match vs, h with
  | [], _ => kernel_rfl
  | [_], _ => kernel_rfl
  | [_, _], _ => kernel_rfl
  | [_, _, _], _ => kernel_rfl
  | [_, _, _, _], _ => kernel_rfl
  | [_, _, _, _, _], _ => kernel_rfl
  | [_, _, _, _, _, _], _ => kernel_rfl
  | [_, _, _, _, _, _, _], _ => kernel_rfl
  | [_, _, _, _, _, _, _, _], _ => kernel_rfl
  | [_, _, _, _, _, _, _, _, _], _ => kernel_rfl
  | _ :: _ :: _ :: _ :: _ :: _ :: _ :: _ :: _ :: _ :: _, h => exact absurd h (by simp)
theorem call_zn {ls : List Addr} {Q : Value → Shared → Prop} (few : ls.length ≤ 9) (tup : ∀ l ∈ ls, ∃ xs, s.heap.IsTuple l xs)
    (h : ∀ h', Zs h' s.heap.objs.size ls 0 → h'.objs.size = s.heap.objs.size + ls.length + 3 → (∀ c o, s.heap.get? c = some o → h'.get? c = some o) → Q (.ref (s.heap.objs.size + ls.length + 2)) { s with heap := h' }) :
    wpAny (model prog w) A (call (.type "zip") (ls.map Value.ref)) Q E s :=
  callType_new F.called_zip (by decide) (typeCall_zn _ (by simpa using few)) (newCall_zn _ (by simpa using few)) (fun obj => init_zn obj _ (by simpa using few)) F.entry_zip_new (new_zip ls (Nat.le_trans few (by decide)))
    ⟨tup, fun h' Z a b => ⟨zs_type (s := { s with heap := h' }) Z rfl, h h' Z a b⟩⟩
end
end Dz
end
section
set_option maxRecDepth 100000
set_option maxHeartbeats 4000000
namespace Dw
open PySem PySem.Spec PyProof.Rows L2 Dl

/-! ### mirrors: what a piece of a program does with data, as what must hold so that a wish comes true -/
def W (α : Type) : Type := Rs → (α → Rs → Prop) → Prop
def ret {α : Type} (a : α) : W α := fun t P => P a t
def bnd {α β : Type} (m : W α) (k : α → W β) : W β := fun t P => m t fun a t1 => k a t1 P
def bad {α : Type} : W α := fun _ _ => False
def need {α : Type} (c : Prop) (m : W α) : W α := fun t P => c ∧ m t P
theorem ret_bnd {α β : Type} (a : α) (k : α → W β) : bnd (ret a) k = k a := rfl
theorem bnd_ret {α : Type} (m : W α) : bnd m ret = m := rfl
theorem bnd_bnd {α β γ : Type} (m : W α) (k : α → W β) (l : β → W γ) : bnd (bnd m k) l = bnd m fun a => bnd (k a) l := rfl
theorem bad_bnd {α β : Type} (k : α → W β) : bnd (bad : W α) k = bad := rfl
theorem need_bnd {α β : Type} (c : Prop) (m : W α) (k : α → W β) : bnd (need c m) k = need c (bnd m k) := rfl
theorem need_true {α : Type} {c : Prop} (h : c) (m : W α) : need c m = m := by
  funext t P
  exact propext ⟨fun z => z.2, fun z => ⟨h, z⟩⟩
def op2 (o : PyData → PyData → W PyData) (f g : W PyData) : W PyData := bnd f fun x => bnd g fun y => o x y
def op1 (o : PyData → W PyData) (f : W PyData) : W PyData := bnd f o
def liq : Nat := 16777216
def oadd : PyData → PyData → W PyData
  | .int i, .int j => ret (.int (i + j))
  | .bool k, .int j => ret (.int ((if k = true then (1 : Int) else 0) + j))
  | _, _ => bad
def osub : PyData → PyData → W PyData
  | .int i, .int j => ret (.int (i - j))
  | _, _ => bad
def omul : PyData → PyData → W PyData
  | .int i, .int j => need (CMul i j) (ret (.int (i * j)))
  | _, _ => bad
def ofdiv : PyData → PyData → W PyData
  | .int i, .int j => need (CDivN i j) (ret (.int (i.fdiv j)))
  | _, _ => bad
def omod : PyData → PyData → W PyData
  | .int i, .int j => need (j ≠ 0) (ret (.int (i.fmod j)))
  | _, _ => bad
def opow : PyData → PyData → W PyData
  | .int i, .int j => need (CPow i j) (ret (.int (i ^ j.toNat)))
  | _, _ => bad
def ocatS : PyData → PyData → W PyData
  | .str a, .str b => need (a.length + b.length ≤ 16777216) (ret (.str (a ++ b)))
  | _, _ => bad
def ocatT : PyData → PyData → W PyData
  | .tuple a, .tuple b => need (a.length + b.length ≤ 16777216) (ret (.tuple (a ++ b)))
  | _, _ => bad
def olt : PyData → PyData → W PyData
  | .int i, .int j => ret (.bool (decide (i < j)))
  | _, _ => bad
def ole : PyData → PyData → W PyData
  | .int i, .int j => ret (.bool (decide (i ≤ j)))
  | _, _ => bad
def ogt : PyData → PyData → W PyData
  | .int i, .int j => ret (.bool (decide (i > j)))
  | _, _ => bad
def oge : PyData → PyData → W PyData
  | .int i, .int j => ret (.bool (decide (i ≥ j)))
  | _, _ => bad
def oltS : PyData → PyData → W PyData
  | .str i, .str j => ret (.bool (decide (i.cps.toList < j.cps.toList)))
  | _, _ => bad
def oeq (x y : PyData) : W PyData := need (SeqAt.shaped x = true ∧ SeqAt.shaped y = true) (ret (.bool (PyData.eqv x y)))
def one_ (x y : PyData) : W PyData := need (SeqAt.shaped x = true ∧ SeqAt.shaped y = true) (ret (.bool (!PyData.eqv x y)))
def oin : PyData → PyData → W PyData
  | x, .list ys => need (SeqAt.shaped x = true ∧ SeqAt.shaped (.list ys) = true) (ret (.bool (ys.any fun z => PyData.eqv z x)))
  | x, .tuple ys => need (SeqAt.shaped x = true ∧ SeqAt.shaped (.tuple ys) = true) (ret (.bool (ys.any fun z => PyData.eqv z x)))
  | _, _ => bad
def onin : PyData → PyData → W PyData
  | x, .list ys => need (SeqAt.shaped x = true ∧ SeqAt.shaped (.list ys) = true) (ret (.bool (!ys.any fun z => PyData.eqv z x)))
  | x, .tuple ys => need (SeqAt.shaped x = true ∧ SeqAt.shaped (.tuple ys) = true) (ret (.bool (!ys.any fun z => PyData.eqv z x)))
  | _, _ => bad
def oisN (x : PyData) : W PyData := ret (.bool (PyData.isN x))
def onotN (x : PyData) : W PyData := ret (.bool (!PyData.isN x))
def onot : PyData → W PyData
  | .bool b => ret (.bool (!b))
  | _ => bad
def oneg : PyData → W PyData
  | .int i => ret (.int (-i))
  | _ => bad
def olen (x : PyData) : W PyData := match lenD x with
  | some n => need (n ≤ 16777216) (ret (.int n))
  | none => bad
def otup : PyData → W PyData
  | .list xs => ret (.tuple xs)
  | .tuple xs => ret (.tuple xs)
  | _ => bad
def oint : PyData → W PyData
  | .int i => ret (.int i)
  | _ => bad
def ostr : PyData → W PyData
  | .int i => need (i.natAbs.log2 < 1920) (ret (.str (Str.ofString (toString i))))
  | _ => bad
def boolsOf : List PyData → Option (List Bool)
  | [] => some []
  | .bool b :: r => (boolsOf r).map (b :: ·)
  | _ => none
theorem boolsOf_map : ∀ bs : List Bool, boolsOf (bs.map PyData.bool) = some bs
  | [] => rfl
  | b :: bs => by rw [List.map_cons, boolsOf, boolsOf_map]; rfl
theorem boolsOf_some : ∀ {xs : List PyData} {bs : List Bool}, boolsOf xs = some bs → xs = bs.map PyData.bool
  | [], bs, h => by cases h; rfl
  | x :: r, bs, h => by
    cases x with
    | bool b =>
      rw [boolsOf] at h
      cases e : boolsOf r with
      | none => rw [e] at h; cases h
      | some cs =>
        rw [e] at h
        cases h
        rw [List.map_cons, ← boolsOf_some e]
    | _ => cases h
def oall (x : PyData) : W PyData := match x with
  | .list xs => match boolsOf xs with
    | some bs => ret (.bool (bs.all id))
    | none => bad
  | _ => bad
def oany (x : PyData) : W PyData := match x with
  | .list xs => match boolsOf xs with
    | some bs => ret (.bool (bs.any id))
    | none => bad
  | _ => bad
def oix (x y : PyData) : W PyData := match x, y with
  | .tuple xs, .int i => match atI xs i with
    | some z => ret z
    | none => bad
  | .list xs, .int i => match atI xs i with
    | some z => ret z
    | none => bad
  | _, _ => bad
def oixS (x y : PyData) : W PyData := match x, y with
  | .str xs, .int i => match atI xs.cps.toList i with
    | some z => need (xs.length ≤ 16777216) (ret (.str ⟨#[z]⟩))
    | none => bad
  | _, _ => bad
def slT (f : W PyData) (lo hi : W (Option Int)) : W PyData := bnd f fun x => match x with
  | .tuple xs => bnd lo fun l => bnd hi fun u => ret (.tuple (cutD xs l u))
  | _ => bad
def slL (f : W PyData) (lo hi : W (Option Int)) : W (List PyData) := bnd f fun x => match x with
  | .list xs => bnd lo fun l => bnd hi fun u => ret (cutD xs l u)
  | _ => bad
def slS (f : W PyData) (lo hi : W (Option Int)) : W PyData := bnd f fun x => match x with
  | .str z => bnd lo fun l => bnd hi fun u => need (z.length ≤ 16777216) (ret (.str (cutS z l u)))
  | _ => bad
def revT (f : W PyData) : W PyData := bnd f fun x => match x with
  | .tuple xs => ret (.tuple xs.reverse)
  | _ => bad
def revL (f : W PyData) : W (List PyData) := bnd f fun x => match x with
  | .list xs => ret xs.reverse
  | _ => bad
def andW (f g : W PyData) : W PyData := bnd f fun x => match x with
  | .bool b => bif b then g else ret (.bool false)
  | _ => bad
def orW (f g : W PyData) : W PyData := bnd f fun x => match x with
  | .bool b => bif b then ret (.bool true) else g
  | _ => bad
def ifW {α : Type} (c : W Bool) (f g : W α) : W α := bnd c fun b => bif b then f else g
def chW (o o' : PyData → PyData → W PyData) (f g h : W PyData) : W PyData := bnd f fun x => bnd g fun y => bnd (o x y) fun b => match b with
  | .bool true => bnd h fun z => o' y z
  | .bool false => ret (.bool false)
  | _ => bad
def asB : PyData → W Bool
  | .bool b => ret b
  | _ => bad
def strOk : PyData → Prop
  | .str y => y.length ≤ 16777216
  | .dict _ => False
  | _ => True
def asT (x : PyData) : W Bool := need (strOk x) (ret (truD x))
def andT (f g : W Bool) : W Bool := bnd f fun b => bif b then g else ret false
def orT (f g : W Bool) : W Bool := bnd f fun b => bif b then ret true else g
def notT (f : W Bool) : W Bool := bnd f fun b => ret (!b)
def nilA {α : Type} : W (List α) := ret []
def consA (f : W PyData) (g : W (List PyData)) : W (List PyData) := bnd f fun x => bnd g fun xs => ret (x :: xs)
def starA (f : W PyData) (g : W (List PyData)) : W (List PyData) := bnd f fun x => match x with
  | .tuple ys => bnd g fun xs => ret (ys ++ xs)
  | .list ys => bnd g fun xs => ret (ys ++ xs)
  | _ => bad
def tupW (f : W (List PyData)) : W PyData := bnd f fun xs => need (xs.length ≤ 16777216) (ret (.tuple xs))
def lstW (f : W (List PyData)) : W (List PyData) := bnd f fun xs => need (xs.length ≤ 16777216) (ret xs)
def froz (f : W (List PyData)) : W PyData := bnd f fun xs => ret (.list xs)
def catL (f g : W PyData) : W (List PyData) := bnd f fun x => match x with
  | .list xs => bnd g fun y => match y with
    | .list ys => need (xs.length + ys.length ≤ 16777216) (ret (xs ++ ys))
    | _ => bad
  | _ => bad
def asL (x : PyData) : W (List PyData) := match x with
  | .list xs => ret xs
  | .tuple xs => ret xs
  | _ => bad
def asD : B → W PyData
  | .d x => ret x
  | .own xs => ret (.list xs)
  | _ => bad
def asO : B → W (List PyData)
  | .own xs => ret xs
  | _ => bad
def bD : W (List PyData) → W (List B) := fun f => bnd f fun xs => ret (xs.map B.d)
def rdA (g : W (List B)) : W (List B) := bnd g fun bs => ret (.rd :: bs)
def dA (f : W PyData) (g : W (List B)) : W (List B) := bnd f fun x => bnd g fun bs => ret (.d x :: bs)
def callD (m : List B → W B) (f : W (List B)) : W PyData := bnd f fun bs => bnd (m bs) asD
def callL (m : List B → W B) (f : W (List B)) : W (List PyData) := bnd f fun bs => bnd (m bs) asO
def oN : W (Option Int) := ret none
def oS (f : W PyData) : W (Option Int) := bnd f fun x => match x with
  | .int i => ret (some i)
  | _ => bad
def inRng (j : Int) : Prop := -(2 ^ 62) ≤ j ∧ j < 2 ^ 62
def rng1 (f : W PyData) : W (List PyData) := bnd f fun x => match x with
  | .int j => need (inRng j) (ret (rngD 0 j.toNat))
  | _ => bad
def rng2 (f g : W PyData) : W (List PyData) := bnd f fun x => match x with
  | .int i => bnd g fun y => match y with
    | .int j => need (inRng i ∧ inRng j) (ret (rngD i (j - i).toNat))
    | _ => bad
  | _ => bad
def itS (f : W PyData) : W (List PyData) := bnd f fun x => match x with
  | .str z => ret (sgnD z)
  | _ => bad
def itL (f : W PyData) : W (List PyData) := bnd f fun x => match x with
  | .list xs => ret xs
  | _ => bad
def itT (f : W PyData) : W (List PyData) := bnd f fun x => match x with
  | .tuple xs => ret xs
  | _ => bad
/-! loops -/
inductive Out (τ σ : Type) where
  | nx (s : τ)
  | ct (s : σ)
  | bk (s : σ)
  | rt (b : B)
def forW {σ : Type} (f : σ → PyData → W (Out σ σ)) : List PyData → σ → W (Sum σ B)
  | [], s => ret (.inl s)
  | x :: r, s => bnd (f s x) fun o => match o with
    | .nx s' => forW f r s'
    | .ct s' => forW f r s'
    | .bk s' => ret (.inl s')
    | .rt b => ret (.inr b)
def whN {σ : Type} (c : σ → W Bool) (f : σ → W (Out σ σ)) : Nat → σ → W (Sum σ B)
  | 0, _ => bad
  | n + 1, s => bnd (c s) fun b => bif b then (bnd (f s) fun o => match o with
    | .nx s' => whN c f n s'
    | .ct s' => whN c f n s'
    | .bk s' => ret (.inl s')
    | .rt b => ret (.inr b)) else ret (.inl s)
def whW {σ : Type} (c : σ → W Bool) (f : σ → W (Out σ σ)) (s : σ) : W (Sum σ B) := fun t P => ∃ n, whN c f n s t P
/-- what follows a loop -/
def thn {α τ σ : Type} (m : W (Sum α B)) (k : α → W (Out τ σ)) : W (Out τ σ) := bnd m fun o => match o with
  | .inl s => k s
  | .inr b => ret (.rt b)
/-- what follows an if whose branches meet again -/
def joi {α τ σ : Type} (m : W (Out α σ)) (k : α → W (Out τ σ)) : W (Out τ σ) := bnd m fun o => match o with
  | .nx s => k s
  | .ct s => ret (.ct s)
  | .bk s => ret (.bk s)
  | .rt b => ret (.rt b)
/-- a block that never goes on -/
def upO {τ σ : Type} (m : W (Out Empty σ)) : W (Out τ σ) := joi m fun s => nomatch s
def mapW (f : PyData → W PyData) : List PyData → W (List PyData)
  | [] => ret []
  | x :: r => bnd (f x) fun y => bnd (mapW f r) fun ys => ret (y :: ys)
def filW (c : PyData → W Bool) (f : PyData → W PyData) : List PyData → W (List PyData)
  | [] => ret []
  | x :: r => bnd (c x) fun b => bif b then (bnd (f x) fun y => bnd (filW c f r) fun ys => ret (y :: ys)) else filW c f r
def compW (it : W (List PyData)) (f : PyData → W PyData) : W (List PyData) := bnd it fun xs => need (xs.length ≤ 16777216) (mapW f xs)
def compI (it : W (List PyData)) (c : PyData → W Bool) (f : PyData → W PyData) : W (List PyData) := bnd it fun xs => need (xs.length ≤ 16777216) (filW c f xs)
def two {α : Type} (k : PyData → PyData → W α) : PyData → W α
  | .tuple [x, y] => k x y
  | _ => bad
def three {α : Type} (k : PyData → PyData → PyData → W α) : PyData → W α
  | .tuple [x, y, z] => k x y z
  | _ => bad
/-- a def's answer by its body -/
def fnW (m : W (Out Empty Empty)) : W B := bnd m fun o => match o with
  | .rt b => ret b
  | .nx s => nomatch s
  | .ct s => nomatch s
  | .bk s => nomatch s
def fnU (m : W (Out Unit Empty)) : W B := bnd m fun o => match o with
  | .rt b => ret b
  | .nx _ => ret (.d .none)
  | .ct s => nomatch s
  | .bk s => nomatch s
def nul {α : Type} : Empty → α := fun s => nomatch s
/-- slots: less is known -/
inductive Le : List B → List B → Prop
  | nil : Le [] []
  | same {b : B} {r q : List B} : Le r q → Le (b :: r) (b :: q)
  | un {b : B} {r q : List B} : Le r q → Le (b :: r) (.un :: q)
theorem Le.len {r q : List B} (h : Le r q) : r.length = q.length := by
  induction h with
  | nil => rfl
  | same _ ih => rw [List.length_cons, List.length_cons, ih]
  | un _ ih => rw [List.length_cons, List.length_cons, ih]
theorem Le.at_ {r q : List B} (h : Le r q) : ∀ (i : Nat) (b : B), q[i]? = some b → b = .un ∨ r[i]? = some b := by
  induction h with
  | nil => intro i b e; simp at e
  | same _ ih =>
    intro i b e
    cases i with
    | zero => exact .inr e
    | succ i => exact ih i b e
  | un _ ih =>
    intro i b e
    cases i with
    | zero => cases e; exact .inl rfl
    | succ i => exact ih i b e
section
variable {K : KK} {Wo : WO} {M : Md K Wo} {t : Rs} {G H : Hp} {σ : L2.St} {ρ ρ2 : List B}
theorem sat_le (h : Le ρ ρ2) (S : Sat M t G H σ ρ) : Sat M t G H σ ρ2 where
  st := S.st
  ok := S.ok
  len := by rw [S.len, h.len]
  at_ := fun i b e => by
    rcases h.at_ i b e with rfl | e
    · trivial
    · exact S.at_ i b e
  dis := fun i j xs ys l n e1 e2 e3 e4 => by
    rcases h.at_ i _ e1 with z | e1
    · cases z
    rcases h.at_ j _ e2 with z | e2
    · cases z
    exact S.dis i j xs ys l n e1 e2 e3 e4
end
end Dw
end
section
set_option maxRecDepth 100000
set_option maxHeartbeats 4000000
namespace Dw
open PySem PySem.Spec PyProof.Rows L2 Dl

/-! ### a piece of syntax and its mirror -/
section
variable {X : Cx} {Wo : WO} (M : Md X.KK Wo)
structure RD (e : Expr) (ρ : List B) (f : W PyData) : Prop where
  run : ∀ (t : Rs) (P : PyData → Rs → Prop), f t P → JD M e ρ t P
structure RL (e : Expr) (ρ : List B) (f : W (List PyData)) : Prop where
  run : ∀ (t : Rs) (P : List PyData → Rs → Prop), f t P → JL M e ρ t P
structure RT (e : Expr) (ρ : List B) (f : W Bool) : Prop where
  run : ∀ (t : Rs) (P : Bool → Rs → Prop), f t P → JT M e ρ t P
structure RV (e : Expr) (ρ : List B) (f : W Bool) : Prop where
  run : ∀ (t : Rs) (P : Bool → Rs → Prop), f t P → JW M e ρ t P
structure RA (es : List Expr) (ρ : List B) (f : W (List B)) : Prop where
  run : ∀ (t : Rs) (P : List B → Rs → Prop), f t P → JA M es ρ t P
structure RO (e : Option Expr) (ρ : List B) (f : W (Option Int)) : Prop where
  run : ∀ (t : Rs) (P : Option Int → Rs → Prop), f t P → JO M e ρ t P
structure RI (tg e : Expr) (ρ : List B) (f : W (List PyData)) : Prop where
  run : ∀ (t : Rs) (P : List PyData → Rs → Prop), f t P → JI M tg e ρ t P
end
/-- where a def's body is walked: nothing is handled, there is room -/
structure Bb (mg : Str → Option Value) : Prop where
  isi : mg "isinstance" = none
  int : mg "int" = none
  bool : mg "bool" = none
  str : mg "str" = none
  tuple : mg "tuple" = none
  list : mg "list" = none
  len : mg "len" = none
  all : mg "all" = none
  any : mg "any" = none
  range : mg "range" = none
  sorted : mg "sorted" = none
  set : mg "set" = none
  repr : mg "repr" = none
  sum : mg "sum" = none
  zip : mg "zip" = none
  enum : mg "enumerate" = none
  dict : mg "dict" = none
  min : mg "min" = none
  max : mg "max" = none
structure Ev (X : Cx) (k : Nat) : Prop where
  calm : X.calm = true
  room : Room k X.A
  bu : Bb X.mg
theorem Ev.blk {X : Cx} {k : Nat} (E : Ev X k) {scope : Scope} {s : Shared} {H : Hp} {C : Addr} {cl : List (Str × Addr)} {fp : List Addr} : Ev (Blk X scope s H C cl fp) k := ⟨E.calm, E.room, E.bu⟩
theorem opr_or {X : Cx} {f : Value → Value → Sem Value} {r q : R2} (h : OpR X f r) (g : OpR X f q) : OpR X f fun x y H Q => r x y H Q ∨ q x y H Q := fun pins s σ H x y v u Q I a b c => c.elim (h pins s σ H x y v u Q I a b) (g pins s σ H x y v u Q I a b)
section
variable {X : Cx} {Wo : WO} {M : Md X.KK Wo} {ρ : List B} {a b c e : Expr} {es rest : List Expr} {pos p : Pos} {f g h : W PyData} {tf tg : W Bool} {af : W (List B)} {lf lg : W (List PyData)} {kk : Nat}
/-- a law of a two-place operation over data -/
def Ob {K : KK} {Wo : WO} (M : Md K Wo) (r : R2) (o : PyData → PyData → W PyData) : Prop := ∀ x y t P, o x y t P → Bn M r x y t P
theorem Ob.or {K : KK} {Wo : WO} {M : Md K Wo} {r q : R2} {o : PyData → PyData → W PyData} (h : ∀ x y t P, o x y t P → Bn M r x y t P ∨ Bn M q x y t P) : Ob M (fun x y H Q => r x y H Q ∨ q x y H Q) o := fun x y t P z => (h x y t P z).elim (fun w G H v u k a b Q c => .inl (w G H v u k a b Q c)) fun w G H v u k a b Q c => .inr (w G H v u k a b Q c)
theorem rd_bin {op : Operator} {r : R2} {o : PyData → PyData → W PyData} (ho : OpR X (binaryOp op) r) (ob : Ob M r o) (ha : RD M a ρ f) (hb : RD M b ρ g) : RD M (.BinOp a op b pos) ρ (op2 o f g) := ⟨fun t P z =>
  jd_bin ho ((ha.run t _ z).imp fun x t1 z1 => (hb.run t1 _ z1).imp fun y t2 z2 => ob x y t2 P z2)⟩
theorem rd_cmp {op : CmpOp} {r : R2} {o : PyData → PyData → W PyData} (ho : OpR X (compareOp op) r) (hm : behindInMarks op b = false) (ob : Ob M r o) (ha : RD M a ρ f) (hb : RD M b ρ g) : RD M (.Compare a [op] [b] pos) ρ (op2 o f g) := ⟨fun t P z =>
  jd_cmp ho hm ((ha.run t _ z).imp fun x t1 z1 => (hb.run t1 _ z1).imp fun y t2 z2 => ob x y t2 P z2)⟩
theorem asB_of {x : PyData} {t : Rs} {P : Bool → Rs → Prop} (h : asB x t P) : ∃ k, x = .bool k ∧ P k t := by
  cases x <;> first | exact ⟨_, rfl, h⟩ | exact h.elim
theorem rt_cmp {op : CmpOp} {r : R2} {o : PyData → PyData → W PyData} (ho : OpR X (compareOp op) r) (hm : behindInMarks op b = false) (ob : Ob M r o) (ha : RD M a ρ f) (hb : RD M b ρ g) : RT M (.Compare a [op] [b] pos) ρ (bnd (op2 o f g) asB) := ⟨fun t P z =>
  jt_cmp ho hm ((ha.run t _ z).imp fun x t1 z1 => (hb.run t1 _ z1).imp fun y t2 z2 => ob x y t2 _ (by
    have : (o x y) t2 (fun z t3 => asB z t3 P) := z2
    have e : (fun z t3 => asB z t3 P) = fun z t3 => ∃ k, z = PyData.bool k ∧ P k t3 := by
      funext z t3
      refine propext ⟨asB_of, fun ⟨k, e, q⟩ => ?_⟩
      subst e
      exact q
    rw [e] at this
    exact this))⟩
/-! operators over data -/
section
variable {K : KK} {M : Md K Wo}
theorem ob_add : Ob M (fun x y H Q => rI0 (fun i j => .int (i + j)) x y H Q ∨ (∃ k j, x = .bl k ∧ y = .int j ∧ Q (.int ((if k = true then (1 : Int) else 0) + j)) H)) oadd := Ob.or fun x y t P z => by
  cases x with
  | int i => cases y with
    | int j => exact .inl (bn_I0 (g := fun i j => i + j) z)
    | _ => exact z.elim
  | bool k => cases y with
    | int j =>
      refine .inr fun G H v w o hv hw Q q => ?_
      exact ⟨k, j, hv.blE, hw.intE, keep o q (.int _) z⟩
    | _ => exact z.elim
  | _ => exact z.elim
theorem ob_sub : Ob M (rI0 fun i j => .int (i - j)) osub := fun x y t P z => by
  cases x <;> first | exact z.elim | (cases y <;> first | exact z.elim | exact bn_I0 (g := fun i j => i - j) z)
theorem ob_mul : Ob M (rI CMul fun i j => .int (i * j)) omul := fun x y t P z => by
  cases x <;> first | exact z.elim | (cases y <;> first | exact z.elim | exact bn_I (g := fun i j => i * j) z.1 z.2)
theorem ob_fdiv : Ob M (rI CDivN fun i j => .int (i.fdiv j)) ofdiv := fun x y t P z => by
  cases x <;> first | exact z.elim | (cases y <;> first | exact z.elim | exact bn_I (g := fun i j => i.fdiv j) z.1 z.2)
theorem ob_mod : Ob M (rI (fun _ j => j ≠ 0) fun i j => .int (i.fmod j)) omod := fun x y t P z => by
  cases x <;> first | exact z.elim | (cases y <;> first | exact z.elim | exact bn_I (C := fun x j => j ≠ 0) (g := fun i j => i.fmod j) z.1 z.2)
theorem ob_pow : Ob M (rI CPow fun i j => .int (i ^ j.toNat)) opow := fun x y t P z => by
  cases x <;> first | exact z.elim | (cases y <;> first | exact z.elim | exact bn_I (g := fun i j => i ^ j.toNat) z.1 z.2)
theorem ob_lt : Ob M (rI0 fun i j => .bl (decide (i < j))) olt := fun x y t P z => by
  cases x <;> first | exact z.elim | (cases y <;> first | exact z.elim | exact bn_B0 (g := fun i j => decide (i < j)) z)
theorem ob_le : Ob M (rI0 fun i j => .bl (decide (i ≤ j))) ole := fun x y t P z => by
  cases x <;> first | exact z.elim | (cases y <;> first | exact z.elim | exact bn_B0 (g := fun i j => decide (i ≤ j)) z)
theorem ob_gt : Ob M (rI0 fun i j => .bl (decide (i > j))) ogt := fun x y t P z => by
  cases x <;> first | exact z.elim | (cases y <;> first | exact z.elim | exact bn_B0 (g := fun i j => decide (i > j)) z)
theorem ob_ge : Ob M (rI0 fun i j => .bl (decide (i ≥ j))) oge := fun x y t P z => by
  cases x <;> first | exact z.elim | (cases y <;> first | exact z.elim | exact bn_B0 (g := fun i j => decide (i ≥ j)) z)
end
theorem rd_add (ha : RD M a ρ f) (hb : RD M b ρ g) : RD M (.BinOp a .Add b pos) ρ (op2 oadd f g) := rd_bin (opr_or op_add op_add_bi) ob_add ha hb
theorem rd_sub (ha : RD M a ρ f) (hb : RD M b ρ g) : RD M (.BinOp a .Sub b pos) ρ (op2 osub f g) := rd_bin op_sub ob_sub ha hb
theorem rd_mul (ha : RD M a ρ f) (hb : RD M b ρ g) : RD M (.BinOp a .Mult b pos) ρ (op2 omul f g) := rd_bin op_mul ob_mul ha hb
theorem rd_fdiv (ha : RD M a ρ f) (hb : RD M b ρ g) : RD M (.BinOp a .FloorDiv b pos) ρ (op2 ofdiv f g) := rd_bin op_fdivN ob_fdiv ha hb
theorem rd_mod (ha : RD M a ρ f) (hb : RD M b ρ g) : RD M (.BinOp a .Mod b pos) ρ (op2 omod f g) := rd_bin op_modN ob_mod ha hb
theorem rd_pow (ha : RD M a ρ f) (hb : RD M b ρ g) : RD M (.BinOp a .Pow b pos) ρ (op2 opow f g) := rd_bin op_pow ob_pow ha hb
theorem ob_catS {K : KK} {M : Md K Wo} : Ob M (fun x y H Q => ∃ i j, x = .str i ∧ y = .str j ∧ i.length + j.length ≤ sizeLine ∧ Q (.str (i ++ j)) H) ocatS := fun x y t P z => by
  cases x <;> first | exact z.elim | (cases y <;> first | exact z.elim | exact fun G H v w k hv hw Q q => ⟨_, _, hv.strE, hw.strE, line_of z.1, keep k q (.str _) z.2⟩)
theorem rd_catS (ha : RD M a ρ f) (hb : RD M b ρ g) : RD M (.BinOp a .Add b pos) ρ (op2 ocatS f g) := rd_bin op_add_str ob_catS ha hb
theorem rd_catT (ha : RD M a ρ f) (hb : RD M b ρ g) : RD M (.BinOp a .Add b pos) ρ (op2 ocatT f g) := rd_bin op_catA (fun x y t P z => by
  cases x <;> first | exact z.elim | skip
  cases y <;> first | exact z.elim | skip
  rename_i xs ys
  obtain ⟨l, p⟩ := z
  intro G H v w k hv hw Q q
  obtain ⟨a1, vs, rfl, st, da⟩ := hv.tupE
  obtain ⟨a2, ws, rfl, st2, da2⟩ := hw.tupE
  refine ⟨a1, a2, vs, ws, rfl, rfl, sqt_up k.sub st, sqt_up k.sub st2, line_of (by rw [da.length, da2.length]; exact l), fun z => ?_, fun _ z => ?_, fun _ _ a3 n3 => ?_⟩
  · have z' : xs = [] := List.eq_nil_of_length_eq_zero (by rw [← da.length, z]; rfl)
    subst z'
    exact keep k q hw p
  · have z' : ys = [] := List.eq_nil_of_length_eq_zero (by rw [← da2.length, z]; rfl)
    subst z'
    rw [ret, List.append_nil] at p
    exact keep k q hv p
  · have s := k.lay (o := .tup (vs ++ ws)) n3
    exact q _ _ _ _ _ s (.tup (.inl (.inl upd_same)) (DeAll.up s.gg _ _ (da.app da2))) p) ha hb
theorem rl_cat (ha : RD M a ρ f) (hb : RD M b ρ g) : RL M (.BinOp a .Add b pos) ρ (catL f g) := ⟨fun t P z => jl_cat ((ha.run t _ z).imp fun x t1 z1 => by
  cases x <;> first | exact z1.elim | skip
  refine ⟨_, rfl, (hb.run t1 _ z1).imp fun y t2 z2 => ?_⟩
  cases y <;> first | exact z2.elim | skip
  exact ⟨_, rfl, z2.1, z2.2⟩)⟩
/-! comparisons -/
theorem rd_lt (ha : RD M a ρ f) (hb : RD M b ρ g) : RD M (.Compare a [.Lt] [b] pos) ρ (op2 olt f g) := rd_cmp op_lt (nomark _) ob_lt ha hb
theorem rd_le (ha : RD M a ρ f) (hb : RD M b ρ g) : RD M (.Compare a [.LtE] [b] pos) ρ (op2 ole f g) := rd_cmp op_le (nomark _) ob_le ha hb
theorem rd_gt (ha : RD M a ρ f) (hb : RD M b ρ g) : RD M (.Compare a [.Gt] [b] pos) ρ (op2 ogt f g) := rd_cmp op_gt (nomark _) ob_gt ha hb
theorem rd_ge (ha : RD M a ρ f) (hb : RD M b ρ g) : RD M (.Compare a [.GtE] [b] pos) ρ (op2 oge f g) := rd_cmp op_ge (nomark _) ob_ge ha hb
theorem rt_lt (ha : RD M a ρ f) (hb : RD M b ρ g) : RT M (.Compare a [.Lt] [b] pos) ρ (bnd (op2 olt f g) asB) := rt_cmp op_lt (nomark _) ob_lt ha hb
theorem rt_le (ha : RD M a ρ f) (hb : RD M b ρ g) : RT M (.Compare a [.LtE] [b] pos) ρ (bnd (op2 ole f g) asB) := rt_cmp op_le (nomark _) ob_le ha hb
theorem rt_gt (ha : RD M a ρ f) (hb : RD M b ρ g) : RT M (.Compare a [.Gt] [b] pos) ρ (bnd (op2 ogt f g) asB) := rt_cmp op_gt (nomark _) ob_gt ha hb
theorem rt_ge (ha : RD M a ρ f) (hb : RD M b ρ g) : RT M (.Compare a [.GtE] [b] pos) ρ (bnd (op2 oge f g) asB) := rt_cmp op_ge (nomark _) ob_ge ha hb
def rEqD (K : KK) : R2 := fun x y H Q => ∃ d e, Dp K H x d ∧ Dp K H y e ∧ SeqAt.shaped d = true ∧ SeqAt.shaped e = true ∧ Q (.bl (PyData.eqv d e)) H
theorem ob_eq {K : KK} {M : Md K Wo} : Ob M (rEqD K) oeq := fun x y t P z => fun G H v w k hv hw Q q =>
  ⟨x, y, De.dpS z.1.1 (De.up k.sub _ _ hv), De.dpS z.1.2 (De.up k.sub _ _ hw), z.1.1, z.1.2, keep k q (.bl _) z.2⟩
def rNeD (K : KK) : R2 := fun x y H Q => ∃ d e, Dp K H x d ∧ Dp K H y e ∧ SeqAt.shaped d = true ∧ SeqAt.shaped e = true ∧ Q (.bl (!PyData.eqv d e)) H
theorem ob_ne {K : KK} {M : Md K Wo} : Ob M (rNeD K) one_ := fun x y t P z => fun G H v w k hv hw Q q =>
  ⟨x, y, De.dpS z.1.1 (De.up k.sub _ _ hv), De.dpS z.1.2 (De.up k.sub _ _ hw), z.1.1, z.1.2, keep k q (.bl _) z.2⟩
theorem rd_eq (E : Ev X kk) (ha : RD M a ρ f) (hb : RD M b ρ g) : RD M (.Compare a [.Eq] [b] pos) ρ (op2 oeq f g) := rd_cmp (r := rEqD X.KK) (op_eqD E.room.units) (nomark _) ob_eq ha hb
theorem rd_ne (E : Ev X kk) (ha : RD M a ρ f) (hb : RD M b ρ g) : RD M (.Compare a [.NotEq] [b] pos) ρ (op2 one_ f g) := rd_cmp (r := rNeD X.KK) (op_neD E.room.units) (nomark _) ob_ne ha hb
theorem rt_eq (E : Ev X kk) (ha : RD M a ρ f) (hb : RD M b ρ g) : RT M (.Compare a [.Eq] [b] pos) ρ (bnd (op2 oeq f g) asB) := rt_cmp (r := rEqD X.KK) (op_eqD E.room.units) (nomark _) ob_eq ha hb
theorem rt_ne (E : Ev X kk) (ha : RD M a ρ f) (hb : RD M b ρ g) : RT M (.Compare a [.NotEq] [b] pos) ρ (bnd (op2 one_ f g) asB) := rt_cmp (r := rNeD X.KK) (op_neD E.room.units) (nomark _) ob_ne ha hb
/-! in -/
def rInL (K : KK) (neg : Bool) : R2 := fun x y H Q => ∃ d ds, Dp K H x d ∧ Dp K H y (.list ds) ∧ SeqAt.shaped d = true ∧ SeqAt.shaped (.list ds) = true ∧ Q (.bl (if neg then !ds.any fun z => PyData.eqv z d else ds.any fun z => PyData.eqv z d)) H
theorem op_inLL (hu : X.A.units + 65 < cLine) : OpR X (compareOp .In) (rInL X.KK false) := fun pins s σ H x y v u Q I a b ⟨d, ds, h1, h2, h3, h4, q⟩ => op_inD hu pins s σ H x y v u Q I a b ⟨d, ds, h1, h2, h3, h4, q⟩
theorem op_niLL (hu : X.A.units + 65 < cLine) : OpR X (compareOp .NotIn) (rInL X.KK true) := fun pins s σ H x y v u Q I a b ⟨d, ds, h1, h2, h3, h4, q⟩ => op_notInD hu pins s σ H x y v u Q I a b ⟨d, ds, h1, h2, h3, h4, q⟩
theorem ob_in {K : KK} {M : Md K Wo} : Ob M (fun x y H Q => rInL K false x y H Q ∨ rInU K false x y H Q) oin := Ob.or fun x y t P z => by
  cases y with
  | list ys => exact .inl fun G H v w k hv hw Q q => ⟨x, ys, De.dpS z.1.1 (De.up k.sub _ _ hv), De.dpS z.1.2 (De.up k.sub _ _ hw), z.1.1, z.1.2, keep k q (.bl _) z.2⟩
  | tuple ys => exact .inr fun G H v w k hv hw Q q => ⟨x, ys, De.dpS z.1.1 (De.up k.sub _ _ hv), De.dpS z.1.2 (De.up k.sub _ _ hw), z.1.1, z.1.2, keep k q (.bl _) z.2⟩
  | _ => exact z.elim
theorem ob_nin {K : KK} {M : Md K Wo} : Ob M (fun x y H Q => rInL K true x y H Q ∨ rInU K true x y H Q) onin := Ob.or fun x y t P z => by
  cases y with
  | list ys => exact .inl fun G H v w k hv hw Q q => ⟨x, ys, De.dpS z.1.1 (De.up k.sub _ _ hv), De.dpS z.1.2 (De.up k.sub _ _ hw), z.1.1, z.1.2, keep k q (.bl _) z.2⟩
  | tuple ys => exact .inr fun G H v w k hv hw Q q => ⟨x, ys, De.dpS z.1.1 (De.up k.sub _ _ hv), De.dpS z.1.2 (De.up k.sub _ _ hw), z.1.1, z.1.2, keep k q (.bl _) z.2⟩
  | _ => exact z.elim
theorem Ev.u65 (E : Ev X kk) : X.A.units + 65 < cLine := by have := E.room.un; omega
theorem rd_in (E : Ev X kk) (ha : RD M a ρ f) (hb : RD M b ρ g) (hm : behindInMarks .In b = false := by rfl) : RD M (.Compare a [.In] [b] pos) ρ (op2 oin f g) := rd_cmp (opr_or (op_inLL E.u65) (op_inU E.u65)) hm ob_in ha hb
theorem rd_nin (E : Ev X kk) (ha : RD M a ρ f) (hb : RD M b ρ g) (hm : behindInMarks .NotIn b = false := by rfl) : RD M (.Compare a [.NotIn] [b] pos) ρ (op2 onin f g) := rd_cmp (opr_or (op_niLL E.u65) (op_niU E.u65)) hm ob_nin ha hb
theorem rt_in (E : Ev X kk) (ha : RD M a ρ f) (hb : RD M b ρ g) (hm : behindInMarks .In b = false := by rfl) : RT M (.Compare a [.In] [b] pos) ρ (bnd (op2 oin f g) asB) := rt_cmp (opr_or (op_inLL E.u65) (op_inU E.u65)) hm ob_in ha hb
theorem rt_nin (E : Ev X kk) (ha : RD M a ρ f) (hb : RD M b ρ g) (hm : behindInMarks .NotIn b = false := by rfl) : RT M (.Compare a [.NotIn] [b] pos) ρ (bnd (op2 onin f g) asB) := rt_cmp (opr_or (op_niLL E.u65) (op_niU E.u65)) hm ob_nin ha hb
theorem rd_isN {j : Nat} {p1 : Pos} (ha : RD M a ρ f) : RD M (.Compare a [.Is] [.Constant .none j p1] pos) ρ (op1 oisN f) := ⟨fun t P z => jd_isN (ha.run t _ z)⟩
theorem rd_notN {j : Nat} {p1 : Pos} (ha : RD M a ρ f) : RD M (.Compare a [.IsNot] [.Constant .none j p1] pos) ρ (op1 onotN f) := ⟨fun t P z => jd_notN (ha.run t _ z)⟩
theorem rt_isN {j : Nat} {p1 : Pos} (ha : RD M a ρ f) : RT M (.Compare a [.Is] [.Constant .none j p1] pos) ρ (bnd (op1 oisN f) asB) := ⟨fun t P z => jt_isN (ha.run t _ z)⟩
theorem rt_notN {j : Nat} {p1 : Pos} (ha : RD M a ρ f) : RT M (.Compare a [.IsNot] [.Constant .none j p1] pos) ρ (bnd (op1 onotN f) asB) := ⟨fun t P z => jt_notN (ha.run t _ z)⟩
/-! names, constants -/
theorem rd_nm (i : Nat) {x : Str} {y : PyData} (hr : ρ[i]? = some (.d y) := by rfl) (hN : X.N[i]? = some x := by rfl) (hv : Vis X.env.scope x := by first | exact Or.inl rfl | exact Or.inr (Or.inl rfl) | exact Or.inr (Or.inr rfl))
    (hd : (x == ("__debug__" : Str)) = false := by decide) (hcd : (x == ("__classdict__" : Str)) = false := by decide) : RD M (.Name x pos) ρ (ret y) := ⟨fun t P z => jd_name i hr z hN hv hd hcd⟩
theorem rd_int {i : Int} {j : Nat} : RD M (.Constant (.int i) j pos) ρ (ret (.int i)) := ⟨fun t P z => jd_int z⟩
theorem rd_str {i : Str} {j : Nat} : RD M (.Constant (.str i) j pos) ρ (ret (.str i)) := ⟨fun t P z => jd_str z⟩
theorem rd_bl {i : Bool} {j : Nat} : RD M (.Constant (.bool i) j pos) ρ (ret (.bool i)) := ⟨fun t P z => jd_bl z⟩
theorem rd_non {j : Nat} : RD M (.Constant .none j pos) ρ (ret .none) := ⟨fun t P z => jd_non z⟩
theorem rd_glob {x : Str} {d : PyData} (hm : ∃ u v, X.mg x = some u ∧ RelV v u ∧ ∀ G, De X.KK G v d) (hg : Gl X x := by rfl) (h : (x == Str.ofString "__debug__") = false := by decide) : RD M (.Name x pos) ρ (ret d) := ⟨fun t P z => by
  obtain ⟨u, v, h1, h2, h3⟩ := hm
  exact jd_glob h1 h2 h3 z hg h⟩
/-! arguments, displays -/
theorem ra_nil : RA M [] ρ (ret []) := ⟨fun t P z => ja_nil z⟩
theorem ra_cons (he : RD M e ρ f) (hs : RA M es ρ af) (h : starEach (e :: es) X.env = (false, eval e X.env) :: starEach es X.env := by rfl) : RA M (e :: es) ρ (dA f af) := ⟨fun t P z => ja_cons ((he.run t _ z).imp fun x t1 z1 => hs.run t1 _ z1) h⟩
theorem ra_rd (i : Nat) {x : Str} {p : Pos} (hs : RA M es ρ af) (hr : ρ[i]? = some .rd := by rfl) (hN : X.N[i]? = some x := by rfl)
    (hv : Vis X.env.scope x := by first | exact Or.inl rfl | exact Or.inr (Or.inl rfl) | exact Or.inr (Or.inr rfl)) (hd : (x == ("__debug__" : Str)) = false := by decide) (hcd : (x == ("__classdict__" : Str)) = false := by decide)
    (h : starEach (.Name x p :: es) X.env = (false, eval (.Name x p) X.env) :: starEach es X.env := by rfl) : RA M (.Name x p :: es) ρ (rdA af) := ⟨fun t P z => ja_rd i hr (hs.run t _ z) hN hv hd hcd h⟩
theorem DA.imp {ta : TA} {K : KK} {M : Md K Wo} {t : Rs} {P P' : List B → Rs → Prop} (h : DA M ta ρ t P) (i : ∀ x t', P x t' → P' x t') : DA M ta ρ t P' := fun σ G H S Q q => h σ G H S Q fun G' H' vs bs t' s a p => q G' H' vs bs t' s a (i _ _ p)
def dsOf : List B → Option (List PyData)
  | [] => some []
  | .d x :: r => (dsOf r).map (x :: ·)
  | _ => none
theorem dsOf_map : ∀ xs : List PyData, dsOf (xs.map B.d) = some xs
  | [] => rfl
  | x :: xs => by rw [List.map_cons, dsOf, dsOf_map]; rfl
theorem dsOf_some : ∀ {bs : List B} {xs : List PyData}, dsOf bs = some xs → bs = xs.map B.d
  | [], xs, h => by cases h; rfl
  | x :: r, xs, h => by
    cases x with
    | d b =>
      rw [dsOf] at h
      cases e : dsOf r with
      | none => rw [e] at h; cases h
      | some cs =>
        rw [e] at h
        cases h
        rw [List.map_cons, ← dsOf_some e]
    | _ => cases h
/-- a display's items -/
def disp {α : Type} (af : W (List B)) (k : List PyData → W α) : W α := bnd af fun bs => match dsOf bs with
  | some xs => need (xs.length ≤ 16777216) (k xs)
  | none => bad
theorem disp_of {α : Type} {bs : List B} {k : List PyData → W α} {t : Rs} {P : α → Rs → Prop} (h : (match dsOf bs with | some xs => need (xs.length ≤ 16777216) (k xs) | none => bad) t P) : ∃ xs, bs = xs.map B.d ∧ xs.length ≤ 16777216 ∧ k xs t P := by
  cases e : dsOf bs with
  | none => rw [e] at h; exact h.elim
  | some xs => rw [e] at h; exact ⟨xs, dsOf_some e, h.1, h.2⟩
theorem rd_tup {j : Nat} (hs : RA M es ρ af) : RD M (.Tuple es j pos) ρ (disp af fun xs => ret (.tuple xs)) := ⟨fun t P z => jd_tup (DA.imp (hs.run t _ z) fun bs t1 z1 => disp_of z1)⟩
theorem rl_lst (hs : RA M es ρ af) : RL M (.List es pos) ρ (disp af ret) := ⟨fun t P z => jl_lst (DA.imp (hs.run t _ z) fun bs t1 z1 => disp_of z1)⟩
theorem rd_l (h : RL M e ρ lf) : RD M e ρ (froz lf) := ⟨fun t P z => DL.toD (h.run t _ z)⟩
def starD (f : W PyData) (af : W (List B)) : W (List B) := bnd f fun x => match x with
  | .tuple ys => bnd af fun bs => ret (ys.map B.d ++ bs)
  | .list ys => bnd af fun bs => ret (ys.map B.d ++ bs)
  | _ => bad
end
end Dw
end
section
set_option maxRecDepth 100000
set_option maxHeartbeats 4000000
namespace Dw
open PySem PySem.Spec PyProof.Rows L2 Dl
section
variable {X : Cx} {Wo : WO} {M : Md X.KK Wo} {ρ : List B} {a b c e tg : Expr} {es rest : List Expr} {pos p : Pos} {f g h : W PyData} {tf ug : W Bool} {af : W (List B)} {lf lg : W (List PyData)} {kk : Nat} {lo hi : Option Expr} {lw hw : W (Option Int)}
/-! one operand, and, or, if -/
theorem rd_neg (ha : RD M a ρ f) : RD M (.UnaryOp .USub a pos) ρ (op1 oneg f) := ⟨fun t P z => jd_neg ((ha.run t _ z).imp fun x t1 z1 => by
  cases x <;> first | exact z1.elim | exact ⟨_, rfl, z1⟩)⟩
theorem rd_not (ha : RD M a ρ f) : RD M (.UnaryOp .Not a pos) ρ (op1 onot f) := ⟨fun t P z => jd_not ((ha.run t _ z).imp fun x t1 z1 => by
  cases x <;> first | exact z1.elim | exact ⟨_, rfl, z1⟩)⟩
theorem rd_one {op : BoolOp} (ha : RD M a ρ f) : RD M (.BoolOp op [a] pos) ρ f := ⟨fun t P z => jd_one (ha.run t _ z)⟩
theorem rd_and (ha : RD M a ρ f) (hb : RD M (.BoolOp .And (b :: rest) pos) ρ g) : RD M (.BoolOp .And (a :: b :: rest) pos) ρ (andW f g) := ⟨fun t P z => jd_and ((ha.run t _ z).imp fun x t1 z1 => by
  cases x <;> first | exact z1.elim | skip
  rename_i k
  refine ⟨k, rfl, fun e => ?_, fun e => ?_⟩
  · subst e
    exact hb.run t1 _ z1
  · subst e
    exact z1)⟩
theorem rd_or (ha : RD M a ρ f) (hb : RD M (.BoolOp .Or (b :: rest) pos) ρ g) : RD M (.BoolOp .Or (a :: b :: rest) pos) ρ (orW f g) := ⟨fun t P z => jd_or ((ha.run t _ z).imp fun x t1 z1 => by
  cases x <;> first | exact z1.elim | skip
  rename_i k
  refine ⟨k, rfl, fun e => ?_, fun e => ?_⟩
  · subst e
    exact hb.run t1 _ z1
  · subst e
    exact z1)⟩
theorem rd_if (hc : RT M c ρ tf) (ha : RD M a ρ f) (hb : RD M b ρ g) : RD M (.IfExp c a b pos) ρ (ifW tf f g) := ⟨fun t P z => jd_if ((hc.run t _ z).imp fun k t1 z1 => ⟨fun e => by
  subst e
  exact ha.run t1 _ z1, fun e => by
  subst e
  exact hb.run t1 _ z1⟩)⟩
def chI {α : Type} (u v : Int → Int → Bool) (w : Bool → α) (f g h : W PyData) : W α := bnd f fun x => match x with
  | .int i => bnd g fun y => match y with
    | .int j => bif u i j then (bnd h fun z => match z with
      | .int k => ret (w (v j k))
      | _ => bad) else ret (w false)
    | _ => bad
  | _ => bad
theorem rd_chain {op op' : CmpOp} {u v : Int → Int → Bool} (ho : OpR X (compareOp op) (rI0 fun i j => .bl (u i j))) (ho' : OpR X (compareOp op') (rI0 fun i j => .bl (v i j))) (ha : RD M a ρ f) (hb : RD M b ρ g) (hc : RD M c ρ h) (hm : lastMarks [op, op'] [b, c] = false := by rfl) :
    RD M (.Compare a [op, op'] [b, c] pos) ρ (chI u v PyData.bool f g h) := ⟨fun t P z => jd_chain ho ho' ((ha.run t _ z).imp fun x t1 z1 => by
  cases x <;> first | exact z1.elim | skip
  rename_i i
  refine ⟨i, rfl, (hb.run t1 _ z1).imp fun y t2 z2 => ?_⟩
  cases y <;> first | exact z2.elim | skip
  rename_i j
  refine ⟨j, rfl, fun e => ?_, fun e => ?_⟩
  · simp only [e, cond_false] at z2
    exact z2
  · simp only [e, cond_true] at z2
    refine (hc.run t2 _ z2).imp fun z t3 z3 => ?_
    cases z <;> first | exact z3.elim | exact ⟨_, rfl, z3⟩) hm⟩
theorem rt_chain {op op' : CmpOp} {u v : Int → Int → Bool} (ho : OpR X (compareOp op) (rI0 fun i j => .bl (u i j))) (ho' : OpR X (compareOp op') (rI0 fun i j => .bl (v i j))) (ha : RD M a ρ f) (hb : RD M b ρ g) (hc : RD M c ρ h) (hm : lastMarks [op, op'] [b, c] = false := by rfl) :
    RT M (.Compare a [op, op'] [b, c] pos) ρ (chI u v id f g h) := ⟨fun t P z => jt_chain ho ho' ((ha.run t _ z).imp fun x t1 z1 => by
  cases x <;> first | exact z1.elim | skip
  rename_i i
  refine ⟨i, rfl, (hb.run t1 _ z1).imp fun y t2 z2 => ?_⟩
  cases y <;> first | exact z2.elim | skip
  rename_i j
  refine ⟨j, rfl, fun e => ?_, fun e => ?_⟩
  · simp only [e, cond_false] at z2
    exact z2
  · simp only [e, cond_true] at z2
    refine (hc.run t2 _ z2).imp fun z t3 z3 => ?_
    cases z <;> first | exact z3.elim | exact ⟨_, rfl, z3⟩) hm⟩
abbrev bLt (i j : Int) : Bool := decide (i < j)
abbrev bLe (i j : Int) : Bool := decide (i ≤ j)
theorem rt_not (ha : RT M a ρ tf) : RT M (.UnaryOp .Not a pos) ρ (notT tf) := ⟨fun t P z => jt_not (ha.run t _ z)⟩
theorem rt_v (h : RV M e ρ tf) : RT M e ρ tf := ⟨fun t P z => jt_w (h.run t _ z)⟩
theorem rv_one {op : BoolOp} (ha : RT M a ρ tf) : RV M (.BoolOp op [a] pos) ρ tf := ⟨fun t P z => by
  cases op with
  | And => exact jw_and1 (ha.run t _ z)
  | Or => exact jw_or1 (ha.run t _ z)⟩
theorem rv_and (ha : RT M a ρ tf) (hb : RV M (.BoolOp .And (b :: rest) pos) ρ ug) : RV M (.BoolOp .And (a :: b :: rest) pos) ρ (andT tf ug) := ⟨fun t P z => jw_and ((ha.run t _ z).imp fun k t1 z1 => ⟨fun e => by
  subst e
  exact hb.run t1 _ z1, fun e => by
  subst e
  exact z1⟩)⟩
theorem rv_or (ha : RT M a ρ tf) (hb : RV M (.BoolOp .Or (b :: rest) pos) ρ ug) : RV M (.BoolOp .Or (a :: b :: rest) pos) ρ (orT tf ug) := ⟨fun t P z => jw_or ((ha.run t _ z).imp fun k t1 z1 => ⟨fun e => by
  subst e
  exact hb.run t1 _ z1, fun e => by
  subst e
  exact z1⟩)⟩
theorem DT.imp' {tt : TT} {K : KK} {M : Md K Wo} {t : Rs} {P P' : Bool → Rs → Prop} (h : DT M tt ρ t P) (i : ∀ x t', P x t' → P' x t') : DT M tt ρ t P' := h.imp i
/-- a value as a test -/
theorem rt_tru (ha : RD M e ρ f) (hw : ∀ (whole : Sem Value), PySem.isTrue e X.env whole = (do let v ← whole; standAt e.pos; holding [v] (truthy v)) := by intro _; rfl) : RT M e ρ (bnd f asT) := ⟨fun t P z => jt_tru ((ha.run t _ z).imp fun x t1 z1 => ⟨⟨by
    cases x with
    | dict d => exact z1.1.elim
    | _ => rfl, fun y ey => by
    subst ey
    exact z1.1⟩, z1.2⟩) hw⟩
theorem rt_own (i : Nat) {x : Str} {xs : List PyData} (hr : ρ[i]? = some (.own xs) := by rfl) (hN : X.N[i]? = some x := by rfl) (hv : Vis X.env.scope x := by first | exact Or.inl rfl | exact Or.inr (Or.inl rfl) | exact Or.inr (Or.inr rfl))
    (hd : (x == ("__debug__" : Str)) = false := by decide) (hcd : (x == ("__classdict__" : Str)) = false := by decide) : RT M (.Name x p) ρ (ret (!xs.isEmpty)) := ⟨fun t P z => jt_own i hr z hN hv hd hcd⟩
/-! subscripts -/
theorem ro_none : RO M none ρ oN := ⟨fun t P z => jo_none z⟩
theorem ro_some (ha : RD M a ρ f) : RO M (some a) ρ (oS f) := ⟨fun t P z => jo_some ((ha.run t _ z).imp fun x t1 z1 => by
  cases x <;> first | exact z1.elim | exact ⟨_, rfl, z1⟩)⟩
theorem rd_ix (ha : RD M a ρ f) (hb : RD M b ρ g) (hp : PlainIx b := by intro _ _; rfl) : RD M (.Subscript a b pos) ρ (op2 oix f g) := ⟨fun t P z => jd_of (pe_ix ix_seq peT peT hp) (dd_op ((ha.run t _ z).imp fun x t1 z1 => (hb.run t1 _ z1).imp fun y t2 z2 => by
  intro G H v w k hv hw Q q
  cases x with
  | tuple xs =>
    cases y <;> first | exact z2.elim | skip
    rename_i i
    have z3 : (match atI xs i with | some z => ret z | none => bad) t2 P := z2
    cases e : atI xs i with
    | none => rw [e] at z3; exact z3.elim
    | some z =>
      rw [e] at z3
      obtain ⟨a1, vs, rfl, st, da⟩ := hv.tupE
      obtain ⟨u, eu, du⟩ := da.atI e
      exact .inr (.inl ⟨a1, vs, i, u, rfl, hw.intE, sqt_up k.sub st, eu, keep k q du z3⟩)
  | list xs =>
    cases y <;> first | exact z2.elim | skip
    rename_i i
    have z3 : (match atI xs i with | some z => ret z | none => bad) t2 P := z2
    cases e : atI xs i with
    | none => rw [e] at z3; exact z3.elim
    | some z =>
      rw [e] at z3
      obtain ⟨a1, vs, rfl, st, da⟩ := hv.lstE
      obtain ⟨u, eu, du⟩ := da.atI e
      exact .inl ⟨a1, vs, i, u, rfl, hw.intE, .inl (.inl (k.sub _ _ st)), eu, keep k q du z3⟩
  | _ => exact z2.elim))⟩
theorem rd_ixS (ha : RD M a ρ f) (hb : RD M b ρ g) (hp : PlainIx b := by intro _ _; rfl) : RD M (.Subscript a b pos) ρ (op2 oixS f g) := ⟨fun t P z => jd_of (pe_ix ix_seq peT peT hp) (dd_op ((ha.run t _ z).imp fun x t1 z1 => (hb.run t1 _ z1).imp fun y t2 z2 => by
  intro G H v w k hv hw Q q
  cases x <;> first | exact z2.elim | skip
  cases y <;> first | exact z2.elim | skip
  rename_i xs i
  have z3 : (match atI xs.cps.toList i with | some z => need (xs.length ≤ 16777216) (ret (PyData.str ⟨#[z]⟩)) | none => bad) t2 P := z2
  cases e : atI xs.cps.toList i with
  | none => rw [e] at z3; exact z3.elim
  | some z =>
    rw [e] at z3
    exact .inr (.inr ⟨xs, i, z, hv.strE, hw.intE, line_of z3.1, e, keep k q (.str _) z3.2⟩)))⟩
theorem rd_slT {p2 : Pos} (ha : RD M a ρ f) (hl : RO M lo ρ lw) (hh : RO M hi ρ hw) : RD M (.Subscript a (.Slice lo hi none p2) pos) ρ (slT f lw hw) := ⟨fun t P z => jd_slT ((ha.run t _ z).imp fun x t1 z1 => by
  cases x <;> first | exact z1.elim | skip
  exact ⟨_, rfl, fun σ G H S Q q => hl.run t1 _ z1 σ G H S Q fun G1 H1 o t2 s1 z2 => q G1 H1 o t2 s1 (fun σ G H S Q q => hh.run t2 _ z2 σ G H S Q fun G1 H1 o t3 s1 z3 => q G1 H1 o t3 s1 z3)⟩)⟩
theorem rl_slL {p2 : Pos} (ha : RD M a ρ f) (hl : RO M lo ρ lw) (hh : RO M hi ρ hw) : RL M (.Subscript a (.Slice lo hi none p2) pos) ρ (slL f lw hw) := ⟨fun t P z => jl_slL ((ha.run t _ z).imp fun x t1 z1 => by
  cases x <;> first | exact z1.elim | skip
  exact ⟨_, rfl, fun σ G H S Q q => hl.run t1 _ z1 σ G H S Q fun G1 H1 o t2 s1 z2 => q G1 H1 o t2 s1 (fun σ G H S Q q => hh.run t2 _ z2 σ G H S Q fun G1 H1 o t3 s1 z3 => q G1 H1 o t3 s1 z3)⟩)⟩
theorem rd_slS {p2 : Pos} (ha : RD M a ρ f) (hl : RO M lo ρ lw) (hh : RO M hi ρ hw) : RD M (.Subscript a (.Slice lo hi none p2) pos) ρ (slS f lw hw) := ⟨fun t P z => jd_slS ((ha.run t _ z).imp fun x t1 z1 => by
  cases x <;> first | exact z1.elim | skip
  exact ⟨_, rfl, fun σ G H S Q q => hl.run t1 _ z1 σ G H S Q fun G1 H1 o t2 s1 z2 => q G1 H1 o t2 s1 (fun σ G H S Q q => hh.run t2 _ z2 σ G H S Q fun G1 H1 o t3 s1 z3 => q G1 H1 o t3 s1 z3)⟩)⟩
theorem rd_revT {k : Nat} {p1 p3 p4 : Pos} (ha : RD M a ρ f) : RD M (.Subscript a (.Slice none none (some (.UnaryOp .USub (.Constant (.int 1) k p1) p3)) p4) pos) ρ (revT f) := ⟨fun t P z => jd_revT ((ha.run t _ z).imp fun x t1 z1 => by
  cases x <;> first | exact z1.elim | exact ⟨_, rfl, z1⟩)⟩
theorem rl_revL {k : Nat} {p1 p3 p4 : Pos} (ha : RD M a ρ f) : RL M (.Subscript a (.Slice none none (some (.UnaryOp .USub (.Constant (.int 1) k p1) p3)) p4) pos) ρ (revL f) := ⟨fun t P z => jl_rev (k := k) ((ha.run t _ z).imp fun x t1 z1 => by
  cases x <;> first | exact z1.elim | exact ⟨_, rfl, z1⟩)⟩
/-! built-ins -/
theorem ja_one {P : PyData → Rs → Prop} {t : Rs} {Q : List B → Rs → Prop} (h : JD M e ρ t P) (i : ∀ x t', P x t' → Q [.d x] t') (hs : starEach [e] X.env = (false, eval e X.env) :: starEach [] X.env := by rfl) : JA M [e] ρ t Q := ja_cons (h.imp fun x t1 z1 => ja_nil (i x t1 z1)) hs
theorem boot_all' : bootBuiltins (Str.ofString "all") = some (.builtin "all") := by decide +kernel
theorem boot_any' : bootBuiltins (Str.ofString "any") = some (.builtin "any") := by decide +kernel
theorem boot_tuple' : bootBuiltins (Str.ofString "tuple") = some (.type "tuple") := by decide +kernel
theorem boot_list' : bootBuiltins (Str.ofString "list") = some (.type "list") := by decide +kernel
theorem boot_bool' : bootBuiltins (Str.ofString "bool") = some (.type "bool") := by decide +kernel
theorem boot_str'' : bootBuiltins (Str.ofString "str") = some (.type "str") := by decide +kernel
theorem boot_int'' : bootBuiltins (Str.ofString "int") = some (.type "int") := by decide +kernel
section
variable (E : Ev X kk) (ha : RD M a ρ f)
include E ha
theorem rd_len (hs : starEach [a] X.env = (false, eval a X.env) :: starEach [] X.env := by rfl) (hg : Gl X (Str.ofString "len") := by rfl) : RD M (.Call (.Name (Str.ofString "len") p) [a] [] pos) ρ (op1 olen f) := ⟨fun t P z =>
  jd_callB call_len hg E.bu.len PySem.boot_len (ja_one (ha.run t _ z) (fun x t1 z1 => by
    have z2 : (match lenD x with | some n => need (n ≤ 16777216) (ret (PyData.int n)) | none => bad) t1 P := z1
    cases e : lenD x with
    | none => rw [e] at z2; exact z2.elim
    | some n =>
      rw [e] at z2
      exact cn_len e z2.1 z2.2) hs) (by decide) (by decide) hs rfl⟩
theorem rd_tupc (hs : starEach [a] X.env = (false, eval a X.env) :: starEach [] X.env := by rfl) (hg : Gl X (Str.ofString "tuple") := by rfl) : RD M (.Call (.Name (Str.ofString "tuple") p) [a] [] pos) ρ (op1 otup f) := ⟨fun t P z =>
  jd_callTy call_tuple_of hg E.bu.tuple boot_tuple' (ja_one (ha.run t _ z) (fun x t1 z1 => by
    cases x <;> first | exact z1.elim | exact cn_tuple (Or.inl rfl) z1 | exact cn_tuple (Or.inr rfl) z1) hs) (by decide) (by decide) hs rfl⟩
theorem rl_listc (hs : starEach [a] X.env = (false, eval a X.env) :: starEach [] X.env := by rfl) (hg : Gl X (Str.ofString "list") := by rfl) : RL M (.Call (.Name (Str.ofString "list") p) [a] [] pos) ρ (bnd f asL) := ⟨fun t P z =>
  jl_callTy call_list_of hg E.bu.list boot_list' (ja_one (ha.run t _ z) (fun x t1 z1 => by
    cases x <;> first | exact z1.elim | exact cn_list (Or.inl rfl) z1 | exact cn_list (Or.inr rfl) z1) hs) (by decide) (by decide) hs rfl⟩
theorem rd_intc (hs : starEach [a] X.env = (false, eval a X.env) :: starEach [] X.env := by rfl) (hg : Gl X (Str.ofString "int") := by rfl) : RD M (.Call (.Name (Str.ofString "int") p) [a] [] pos) ρ (op1 oint f) := ⟨fun t P z =>
  jd_callTy call_int1 hg E.bu.int boot_int'' (ja_one (ha.run t _ z) (fun x t1 z1 => by
    cases x <;> first | exact z1.elim | exact cn_int z1) hs) (by decide) (by decide) hs rfl⟩
theorem rd_strc (hs : starEach [a] X.env = (false, eval a X.env) :: starEach [] X.env := by rfl) (hg : Gl X (Str.ofString "str") := by rfl) : RD M (.Call (.Name (Str.ofString "str") p) [a] [] pos) ρ (op1 ostr f) := ⟨fun t P z =>
  jd_callTy call_str_int hg E.bu.str boot_str'' (ja_one (ha.run t _ z) (fun x t1 z1 => by
    cases x <;> first | exact z1.elim | exact cn_str z1.1 z1.2) hs) (by decide) (by decide) hs rfl⟩
theorem rd_all (hs : starEach [a] X.env = (false, eval a X.env) :: starEach [] X.env := by rfl) (hg : Gl X (Str.ofString "all") := by rfl) : RD M (.Call (.Name (Str.ofString "all") p) [a] [] pos) ρ (op1 oall f) := ⟨fun t P z =>
  jd_callB (cr_all E.calm) hg E.bu.all boot_all' (ja_one (ha.run t _ z) (fun x t1 z1 => by
    cases x <;> first | exact z1.elim | skip
    rename_i xs
    have z2 : (match boolsOf xs with | some bs => ret (PyData.bool (bs.all id)) | none => bad) t1 P := z1
    cases e : boolsOf xs with
    | none => rw [e] at z2; exact z2.elim
    | some bs =>
      rw [e] at z2
      rw [boolsOf_some e]
      exact cn_all z2) hs) (by decide) (by decide) hs rfl⟩
theorem rd_any (hs : starEach [a] X.env = (false, eval a X.env) :: starEach [] X.env := by rfl) (hg : Gl X (Str.ofString "any") := by rfl) : RD M (.Call (.Name (Str.ofString "any") p) [a] [] pos) ρ (op1 oany f) := ⟨fun t P z =>
  jd_callB (cr_any E.calm) hg E.bu.any boot_any' (ja_one (ha.run t _ z) (fun x t1 z1 => by
    cases x <;> first | exact z1.elim | skip
    rename_i xs
    have z2 : (match boolsOf xs with | some bs => ret (PyData.bool (bs.any id)) | none => bad) t1 P := z1
    cases e : boolsOf xs with
    | none => rw [e] at z2; exact z2.elim
    | some bs =>
      rw [e] at z2
      rw [boolsOf_some e]
      exact cn_any z2) hs) (by decide) (by decide) hs rfl⟩
end
/-- isinstance with one class -/
def oisi (T : String) (x : PyData) : W PyData := need (noD x = true) (ret (.bool (isiD T x)))
section
variable (E : Ev X kk) (ha : RD M a ρ f)
include E ha
theorem rd_isi {T : Str} {Ts : String} {p1 p2 : Pos} (hT : Ts ∈ ["int", "bool", "str", "tuple", "list"]) (hm2 : X.mg T = none) (hb2 : bootBuiltins T = some (.type Ts)) (hg2 : Gl X T := by rfl) (hg : Gl X "isinstance" := by rfl) (n2 : T ≠ Str.ofString "__name__" := by decide) (n3 : (T == Str.ofString "__debug__") = false := by decide)
    (h3 : starEach [a, .Name T p2] X.env = (false, eval a X.env) :: starEach [.Name T p2] X.env := by rfl)
    (h4 : ((backTo pos (starEach [.Name T p2] X.env)).any fun x => x.fst) = false := by rfl) (h5 : starEach [.Name T p2] X.env = (false, eval (.Name T p2) X.env) :: starEach [] X.env := by rfl) : RD M (.Call (.Name "isinstance" p1) [a, .Name T p2] [] pos) ρ (op1 (oisi Ts) f) := ⟨fun t P z =>
  jd_isi rfl hg E.bu.isi hg2 hm2 hb2 hT (ha.run t _ z) n2 n3 h3 h4 h5⟩
end
theorem rd_isInt (E : Ev X kk) {p1 p2 : Pos} (ha : RD M a ρ f) (hg2 : Gl X "int" := by rfl) (hg : Gl X "isinstance" := by rfl) (h3 : starEach [a, .Name "int" p2] X.env = (false, eval a X.env) :: starEach [.Name "int" p2] X.env := by rfl) : RD M (.Call (.Name "isinstance" p1) [a, .Name "int" p2] [] pos) ρ (op1 (oisi "int") f) := rd_isi E ha (by simp) E.bu.int boot_int'' hg2 hg (by decide) (by decide) h3 rfl rfl
theorem rd_isBool (E : Ev X kk) {p1 p2 : Pos} (ha : RD M a ρ f) (hg2 : Gl X "bool" := by rfl) (hg : Gl X "isinstance" := by rfl) (h3 : starEach [a, .Name "bool" p2] X.env = (false, eval a X.env) :: starEach [.Name "bool" p2] X.env := by rfl) : RD M (.Call (.Name "isinstance" p1) [a, .Name "bool" p2] [] pos) ρ (op1 (oisi "bool") f) := rd_isi E ha (by simp) E.bu.bool boot_bool' hg2 hg (by decide) (by decide) h3 rfl rfl
theorem rd_isStr (E : Ev X kk) {p1 p2 : Pos} (ha : RD M a ρ f) (hg2 : Gl X "str" := by rfl) (hg : Gl X "isinstance" := by rfl) (h3 : starEach [a, .Name "str" p2] X.env = (false, eval a X.env) :: starEach [.Name "str" p2] X.env := by rfl) : RD M (.Call (.Name "isinstance" p1) [a, .Name "str" p2] [] pos) ρ (op1 (oisi "str") f) := rd_isi E ha (by simp) E.bu.str boot_str'' hg2 hg (by decide) (by decide) h3 rfl rfl
theorem rd_isTup (E : Ev X kk) {p1 p2 : Pos} (ha : RD M a ρ f) (hg2 : Gl X "tuple" := by rfl) (hg : Gl X "isinstance" := by rfl) (h3 : starEach [a, .Name "tuple" p2] X.env = (false, eval a X.env) :: starEach [.Name "tuple" p2] X.env := by rfl) : RD M (.Call (.Name "isinstance" p1) [a, .Name "tuple" p2] [] pos) ρ (op1 (oisi "tuple") f) := rd_isi E ha (by simp) E.bu.tuple boot_tuple' hg2 hg (by decide) (by decide) h3 rfl rfl
theorem rd_isList (E : Ev X kk) {p1 p2 : Pos} (ha : RD M a ρ f) (hg2 : Gl X "list" := by rfl) (hg : Gl X "isinstance" := by rfl) (h3 : starEach [a, .Name "list" p2] X.env = (false, eval a X.env) :: starEach [.Name "list" p2] X.env := by rfl) : RD M (.Call (.Name "isinstance" p1) [a, .Name "list" p2] [] pos) ρ (op1 (oisi "list") f) := rd_isi E ha (by simp) E.bu.list boot_list' hg2 hg (by decide) (by decide) h3 rfl rfl
/-! repr, where nothing is being shown -/
def orepr (x : PyData) : W PyData := need (Fin x ∧ sz x ≤ 55000 ∧ x.depth ≤ 60) (ret (.str x.shown))
theorem rd_repr (E : Ev X kk) (hg0 : X.A.guards = some []) (ha : RD M a ρ f) (hs : starEach [a] X.env = (false, eval a X.env) :: starEach [] X.env := by rfl) (hg : Gl X "repr" := by rfl) : RD M (.Call (.Name "repr" p) [a] [] pos) ρ (op1 orepr f) := ⟨fun t P z =>
  jd_repr E.room hg0 E.bu.repr ((ha.run t _ z).imp fun x t1 z1 => ⟨z1.1.1, z1.1.2.1, z1.1.2.2, z1.2⟩) hg hs⟩
/-! calls of defs -/
/-- what a def promises, by its mirror -/
def Sm (m : List B → W B) : List B → Rs → (B → Rs → Prop) → Prop := fun bs t Q => m bs t Q
theorem jd_callA {x : Str} {k j n : Nat} {S : List B → Rs → (B → Rs → Prop) → Prop} {P : PyData → Rs → Prop} {t : Rs} (D : Def X.prog X.w X.K Wo X.mg X.base k x n S) (hr : Room j X.A) (hk : k ≤ j) (hg : Gl X x) (h : JA M (e :: es) ρ t fun bs t1 => bs.length = n ∧ S bs t1 fun b t2 => asD b t2 P)
    (h2 : (x == ("__debug__" : Str)) = false := by decide) (h3 : starEach (e :: es) X.env = (false, eval e X.env) :: starEach es X.env := by rfl)
    (h4 : (backTo pos (starEach es X.env)).any (·.1) = false := by rfl) : JD M (.Call (.Name x p) (e :: es) [] pos) ρ t P := by
  obtain ⟨fa, fd, ps, F, hm, kp, hb⟩ := D.ex
  refine jd_of (pe_call F (hr.mono hk) hg hm kp hb .nil pass0 paT h2 h3 h4) fun σ G H S Q q => h σ G H S _ fun G1 H1 vs bs t1 s1 a1 ⟨hl, sp⟩ => ?_
  show spD X.KK Wo n _ (vs ++ []) H1 Q E0
  rw [List.append_nil]
  refine ⟨M, G1, bs, t1, _, (S.step s1).ok, a1, hl, sp, fun G2 H2 v z t2 s2 d2 py => ?_, fun G2 H2 l ws xs t2 s2 n g e a py => ?_⟩
  · exact q G2 H2 v z t2 (s1.trans s2) d2 py
  · exact q (upd G2 l (.lst ws)) H2 (.ref l) (.list xs) t2 (s1.trans (s2.freeze n g e)) (.lst upd_same (DeAll.up (fun b u z => by
      rw [upd_ne (ne_of_none z g)]
      exact z) xs ws a)) py
def callN (n : Nat) (m : List B → W B) (f : W (List B)) : W B := bnd f fun bs => need (bs.length = n) (m bs)
theorem rd_call {x : Str} {k n : Nat} {m : List B → W B} (E : Ev X kk) (D : Def X.prog X.w X.K Wo X.mg X.base k x n (Sm m)) (ha : RA M (e :: es) ρ af) (hk : k ≤ kk := by decide) (hg : Gl X x := by rfl)
    (h2 : (x == ("__debug__" : Str)) = false := by decide) (h3 : starEach (e :: es) X.env = (false, eval e X.env) :: starEach es X.env := by rfl)
    (h4 : (backTo pos (starEach es X.env)).any (·.1) = false := by rfl) : RD M (.Call (.Name x p) (e :: es) [] pos) ρ (bnd (callN n m af) asD) := ⟨fun t P z => jd_callA D E.room hk hg (DA.imp (ha.run t _ z) fun bs t1 z1 => ⟨z1.1, z1.2⟩) h2 h3 h4⟩
theorem rl_call {x : Str} {k n : Nat} {m : List B → W B} (E : Ev X kk) (D : Def X.prog X.w X.K Wo X.mg X.base k x n (Sm m)) (ha : RA M (e :: es) ρ af) (hk : k ≤ kk := by decide) (hg : Gl X x := by rfl)
    (h2 : (x == ("__debug__" : Str)) = false := by decide) (h3 : starEach (e :: es) X.env = (false, eval e X.env) :: starEach es X.env := by rfl)
    (h4 : (backTo pos (starEach es X.env)).any (·.1) = false := by rfl) : RL M (.Call (.Name x p) (e :: es) [] pos) ρ (bnd (callN n m af) asO) := ⟨fun t P z => jl_call (D.imp (S' := fun bs t Q => m bs t Q) fun bs t Q z => z) E.room hk hg (DA.imp (ha.run t _ z) fun bs t1 z1 => ⟨z1.1, by
  have z2 : m bs t1 (fun b t2 => asO b t2 P) := z1.2
  have e : (fun b t2 => asO b t2 P) = fun b t2 => ∃ y, b = .own y ∧ P y t2 := by
    funext b t2
    refine propext ⟨fun w => ?_, fun ⟨y, ey, py⟩ => by subst ey; exact py⟩
    cases b <;> first | exact ⟨_, rfl, w⟩ | exact w.elim
  rw [e] at z2
  exact z2⟩) h2 h3 h4⟩
/-! what is walked -/
theorem ri_L (ha : RD M e ρ f) : RI M tg e ρ (itL f) := ⟨fun t P z => ji_lst ((ha.run t _ z).imp fun x t1 z1 => by
  cases x <;> first | exact z1.elim | exact ⟨_, rfl, z1⟩)⟩
theorem ri_T (ha : RD M e ρ f) : RI M tg e ρ (itT f) := ⟨fun t P z => ji_tup ((ha.run t _ z).imp fun x t1 z1 => by
  cases x <;> first | exact z1.elim | exact ⟨_, rfl, z1⟩)⟩
theorem ri_S (ha : RD M e ρ f) : RI M tg e ρ (itS f) := ⟨fun t P z => ji_str ((ha.run t _ z).imp fun x t1 z1 => by
  cases x <;> first | exact z1.elim | exact ⟨_, rfl, z1⟩)⟩
theorem ri_l (ha : RL M e ρ lf) : RI M tg e ρ lf := ⟨fun t P z => ji_lst ((DL.toD ((ha.run t _ z).imp fun xs t1 z1 => (⟨xs, rfl, z1⟩ : ∃ ys, PyData.list xs = .list ys ∧ P ys t1))))⟩
theorem ri_r1 (E : Ev X kk) (ha : RD M a ρ f) (hg : Gl X (Str.ofString "range") := by rfl) (hs : starEach [a] X.env = [(false, eval a X.env)] := by rfl) : RI M tg (.Call (.Name (Str.ofString "range") p) [a] [] pos) ρ (rng1 f) := ⟨fun t P z => ji_rng1 hg E.bu.range ((ha.run t _ z).imp fun x t1 z1 => by
  cases x <;> first | exact z1.elim | exact ⟨_, rfl, z1.1.1, z1.1.2, z1.2⟩) hs⟩
theorem ri_r2 (E : Ev X kk) (ha : RD M a ρ f) (hb : RD M b ρ g) (hg : Gl X (Str.ofString "range") := by rfl) (hs : starEach [a, b] X.env = [(false, eval a X.env), (false, eval b X.env)] := by rfl) (hs2 : starEach [b] X.env = [(false, eval b X.env)] := by rfl) : RI M tg (.Call (.Name (Str.ofString "range") p) [a, b] [] pos) ρ (rng2 f g) := ⟨fun t P z => ji_rng2 hg E.bu.range ((ha.run t _ z).imp fun x t1 z1 => by
  cases x <;> first | exact z1.elim | skip
  refine ⟨_, rfl, (hb.run t1 _ z1).imp fun y t2 z2 => ?_⟩
  cases y <;> first | exact z2.elim | exact ⟨_, rfl, ⟨z2.1.1.1, z2.1.1.2, z2.1.2.1, z2.1.2.2⟩, z2.2⟩) hs hs2⟩
end
end Dw
end
section
set_option maxRecDepth 100000
set_option maxHeartbeats 4000000
namespace Dw
open PySem PySem.Spec PyProof.Rows L2 Dl
/-! ### statements -/
def endOf {τ σ : Type} (D : Dk) (emb : τ → List B) (emc : σ → List B) : Out τ σ → Rs → Prop
  | .nx s, t => D.nx (emb s) t
  | .ct s, t => D.ct (emc s) t
  | .bk s, t => D.bk (emc s) t
  | .rt b, t => D.rt b t
section
variable {X : Cx} {Wo : WO} (M : Md X.KK Wo)
structure RS {τ σ : Type} (st : List Stmt) (ρ : List B) (emb : τ → List B) (emc : σ → List B) (m : W (Out τ σ)) : Prop where
  run : ∀ (t : Rs) (P : Out τ σ → Rs → Prop) (D : Dk), m t P → (∀ o t', P o t' → endOf D emb emc o t') → JSs M st ρ t D
end
theorem _root_.Dl.DI.imp' {K : KK} {Wo : WO} {M : Md K Wo} {ti : TI} {ρ : List B} {t : Rs} {P P' : List PyData → Rs → Prop} (h : DI M ti ρ t P) (i : ∀ x t', P x t' → P' x t') : DI M ti ρ t P' := fun σ G H S R r => h σ G H S R fun G' H' J xs t' s w p => r G' H' J xs t' s w (i _ _ p)
section
variable {X : Cx} {Wo : WO} {M : Md X.KK Wo} {ρ ρ2 : List B} {a b c e it : Expr} {tg : Expr} {es : List Expr} {pos p : Pos} {f g h : W PyData} {tf : W Bool} {af : W (List B)} {lf : W (List PyData)} {kk : Nat} {α τ σ : Type} {emb : τ → List B} {emc : σ → List B} {eme : α → List B} {rest body other : List Stmt} {m : W (Out τ σ)}
theorem jss_le {t : Rs} {D : Dk} (hl : Le ρ ρ2) (h : JSs M rest ρ2 t D) : JSs M rest ρ t D := fun σ G H S E F => h σ G H (sat_le hl S) E F
/-- the end of a block -/
theorem rs_nil {s : τ} (hl : Le ρ (emb s)) : RS M [] ρ emb emc (ret (.nx s)) := ⟨fun t P D z i => jss_le hl (jss_nil (i _ _ z))⟩
theorem rs_le (s : List B) (hl : Le ρ s) (h : RS M rest s emb emc m) : RS M rest ρ emb emc m := ⟨fun t P D z i => jss_le hl (h.run t P D z i)⟩
theorem rs_cont {s : σ} (hl : Le ρ (emc s)) : RS M (.Continue pos :: rest) ρ emb emc (ret (.ct s)) := ⟨fun t P D z i => jss_le hl (jss_cons (js_cont (i _ _ z)))⟩
theorem rs_break {s : σ} (hl : Le ρ (emc s)) : RS M (.Break pos :: rest) ρ emb emc (ret (.bk s)) := ⟨fun t P D z i => jss_le hl (jss_cons (js_break (i _ _ z)))⟩
theorem rs_pass (h : RS M rest ρ emb emc m) : RS M (.Pass pos :: rest) ρ emb emc m := ⟨fun t P D z i => jss_cons (js_pass (h.run t P D z i))⟩
theorem rs_ret (ha : RD M e ρ f) : RS M (.Return (some e) pos :: rest) ρ emb emc (bnd f fun x => ret (.rt (.d x))) := ⟨fun t P D z i => jss_ret ((ha.run t _ z).imp fun x t1 z1 => i _ _ z1)⟩
theorem rs_retL (ha : RL M e ρ lf) : RS M (.Return (some e) pos :: rest) ρ emb emc (bnd lf fun x => ret (.rt (.own x))) := ⟨fun t P D z i => jss_retL ((ha.run t _ z).imp fun x t1 z1 => i _ _ z1)⟩
theorem rs_retO (i : Nat) {x : Str} {p : Pos} {xs : List PyData} (hr : ρ[i]? = some (.own xs) := by rfl) (hN : X.N[i]? = some x := by rfl) (hv : Vis X.env.scope x := by first | exact Or.inl rfl | exact Or.inr (Or.inl rfl) | exact Or.inr (Or.inr rfl))
    (hd : (x == ("__debug__" : Str)) = false := by decide) (hcd : (x == ("__classdict__" : Str)) = false := by decide) : RS M (.Return (some (.Name x p)) pos :: rest) ρ emb emc (ret (.rt (.own xs))) := ⟨fun t P D z w => jss_cons (js_retO i hr (w _ _ z) hN hv hd hcd)⟩
theorem rs_retN : RS M (.Return none pos :: rest) ρ emb emc (ret (.rt (.d .none))) := ⟨fun t P D z i => jss_cons (js_retN (i _ _ z))⟩
theorem rs_set (i : Nat) {x : Str} {pos' : Pos} {k : PyData → W (Out τ σ)} (hN : X.N.Nodup) (ha : RD M e ρ f) (hk : ∀ y, RS M rest (ρ.set i (.d y)) emb emc (k y)) (hi : X.N[i]? = some x := by rfl) (hx : L2.Loc X.env.scope x := by first | exact Or.inl rfl | exact Or.inr rfl) (hs : swapsWith e (some (.Name x pos')) pos.line X.env = pure false := by rfl)
    (hf : X.fn x = true ∨ X.env.scope.names.lookup x = some .local := by first | exact .inl rfl | exact .inr rfl) : RS M (.Assign [.Name x pos'] e pos :: rest) ρ emb emc (bnd f k) := ⟨fun t P D z w => jss_set i hN ((ha.run t _ z).imp fun y t1 z1 => (hk y).run t1 P D z1 w) hi hx hs hf⟩
theorem rs_setL (i : Nat) {x : Str} {pos' : Pos} {k : List PyData → W (Out τ σ)} (hN : X.N.Nodup) (ha : RL M e ρ lf) (hk : ∀ y, RS M rest (ρ.set i (.own y)) emb emc (k y)) (hi : X.N[i]? = some x := by rfl) (hx : L2.Loc X.env.scope x := by first | exact Or.inl rfl | exact Or.inr rfl) (hs : swapsWith e (some (.Name x pos')) pos.line X.env = pure false := by rfl)
    (hf : X.fn x = true ∨ X.env.scope.names.lookup x = some .local := by first | exact .inl rfl | exact .inr rfl) : RS M (.Assign [.Name x pos'] e pos :: rest) ρ emb emc (bnd lf k) := ⟨fun t P D z w => jss_setL i hN ((ha.run t _ z).imp fun y t1 z1 => (hk y).run t1 P D z1 w) hi hx hs hf⟩
theorem rs_fz (i : Nat) {xs : List PyData} (h : RS M rest (ρ.set i (.d (.list xs))) emb emc m) (hr : ρ[i]? = some (.own xs) := by rfl) : RS M rest ρ emb emc m := ⟨fun t P D z w => jss_freeze i hr (h.run t P D z w)⟩
theorem rs_expr (ha : RD M e ρ f) (hk : RS M rest ρ emb emc m) (hs : swapsWith e none pos.line X.env = pure false := by rfl) : RS M (.Expr e pos :: rest) ρ emb emc (bnd f fun _ => m) := ⟨fun t P D z w => jss_cons (js_expr ((ha.run t _ z).imp fun x t1 z1 => hk.run t1 P D z1 w) hs)⟩
/-- a, b = e1, e2 -/
theorem rs_par (i j : Nat) {x y : Str} {px py pt pt2 : Pos} {kt ku : Nat} {k : PyData → PyData → W (Out τ σ)} (E : Ev X kk) (hN : X.N.Nodup) (ha : RD M a ρ f) (hb : RD M b ρ g) (hk : ∀ u v, RS M rest ((ρ.set i (.d u)).set j (.d v)) emb emc (k u v)) (hij : i ≠ j := by decide) (hw : swappedStores [.Tuple [.Name x px, .Name y py] kt pt] (.Tuple [a, b] ku pt2) X.env = pure (some [x, y]) := by rfl)
    (hi : X.N[i]? = some x := by rfl) (hj : X.N[j]? = some y := by rfl) (hx : X.env.scope.names.lookup x = some .local := by rfl) (hy : X.env.scope.names.lookup y = some .local := by rfl)
    (hs : swapsWithSole [.Tuple [.Name x px, .Name y py] kt pt] (.Tuple [a, b] ku pt2) pos.line X.env = pure false := by rfl)
    (h3 : starEach [a, b] X.env = (false, eval a X.env) :: starEach [b] X.env := by rfl) (h4 : starEach [b] X.env = (false, eval b X.env) :: starEach [] X.env := by rfl) : RS M (.Assign [.Tuple [.Name x px, .Name y py] kt pt] (.Tuple [a, b] ku pt2) pos :: rest) ρ emb emc (bnd f fun u => bnd g fun v => k u v) := ⟨fun t P D z w =>
  jss_cons (js_par i j E.calm hN hij hw (ja_cons ((ha.run t _ z).imp fun u t1 z1 => ja_cons ((hb.run t1 _ z1).imp fun v t2 z2 => ja_nil ⟨u, v, rfl, (hk u v).run t2 P D z2 w⟩) h4) h3) hi hj hx hy hs)⟩
/-- a, b, c = e1, e2, e3 -/
theorem rs_par3 (i j l : Nat) {st : Stmt} {k : PyData → PyData → PyData → W (Out τ σ)} (ps : ∀ {ta : TA}, PA X [a, b, c] ta → PS X st (tPar3 i j l ta)) (ha : RD M a ρ f) (hb : RD M b ρ g) (hc : RD M c ρ h) (hk : ∀ u v w, RS M rest (((ρ.set i (.d u)).set j (.d v)).set l (.d w)) emb emc (k u v w))
    (h3 : starEach [a, b, c] X.env = (false, eval a X.env) :: starEach [b, c] X.env := by rfl) (h4 : starEach [b, c] X.env = (false, eval b X.env) :: starEach [c] X.env := by rfl) (h5 : starEach [c] X.env = (false, eval c X.env) :: starEach [] X.env := by rfl) : RS M (st :: rest) ρ emb emc (bnd f fun u => bnd g fun v => bnd h fun w => k u v w) := ⟨fun t P D z n =>
  jss_cons (js_par3 (x := "") (y := "") (z := "") (px := ⟨0, 0, 0, 0⟩) (py := ⟨0, 0, 0, 0⟩) (pz := ⟨0, 0, 0, 0⟩) (pt := ⟨0, 0, 0, 0⟩) (pt2 := ⟨0, 0, 0, 0⟩) (kt := 0) (k2 := 0) i j l ps (ja_cons ((ha.run t _ z).imp fun u t1 z1 => ja_cons ((hb.run t1 _ z1).imp fun v t2 z2 => ja_cons ((hc.run t2 _ z2).imp fun w t3 z3 => ja_nil ⟨u, v, w, rfl, (hk u v w).run t3 P D z3 n⟩) h5) h4) h3))⟩
/-- a target and what it binds -/
structure RG (gt : TG) (ρ : List B) (x : PyData) (st : List Stmt) (emb : τ → List B) (emc : σ → List B) (m : W (Out τ σ)) : Prop where
  run : ∀ (t : Rs) (P : Out τ σ → Rs → Prop) (D : Dk), m t P → (∀ o t', P o t' → endOf D emb emc o t') → DG M gt x ρ fun ρ' => JSs M st ρ' t D
theorem rg_one (i : Nat) {x : PyData} (h : RS M rest (ρ.set i (.d x)) emb emc m) : RG (M := M) (gName i) ρ x rest emb emc m := ⟨fun t P D z w => dg_name (h.run t P D z w)⟩
theorem rg_two (i j : Nat) {x : PyData} {k : PyData → PyData → W (Out τ σ)} (h : ∀ u v, RS M rest ((ρ.set i (.d u)).set j (.d v)) emb emc (k u v)) : RG (M := M) (gTup X.KK 2 (gCons (gName i) (gCons (gName j) gNil))) ρ x rest emb emc (two k x) := ⟨fun t P D z n => by
  unfold two at z
  split at z
  · exact dg_two ((h _ _).run t P D z n)
  · exact z.elim⟩
theorem rg_three (i j l : Nat) {x : PyData} {k : PyData → PyData → PyData → W (Out τ σ)} (h : ∀ u v w, RS M rest (((ρ.set i (.d u)).set j (.d v)).set l (.d w)) emb emc (k u v w)) : RG (M := M) (gTup X.KK 3 (gCons (gName i) (gCons (gName j) (gCons (gName l) gNil)))) ρ x rest emb emc (three k x) := ⟨fun t P D z n => by
  unfold three at z
  split at z
  · exact dg_three ((h _ _ _).run t P D z n)
  · exact z.elim⟩
/-- target = e -/
theorem rs_asg {gt : TG} {k : PyData → W (Out τ σ)} (hg : PG X tg gt) (ha : RD M e ρ f) (hk : ∀ y, RG (M := M) gt ρ y rest emb emc (k y)) (hs : swapsWithSole [tg] e pos.line X.env = pure false := by rfl) (hw : swappedStores [tg] e X.env = pure none := by rfl)
    (h1 : (assignEach [tg] X.env).map (·.2) = [assign tg X.env] := by rfl) : RS M (.Assign [tg] e pos :: rest) ρ emb emc (bnd f k) := ⟨fun t P D z w => jss_cons (js_asg hg ((ha.run t _ z).imp fun y t1 z1 => (hk y).run t1 P D z1 w) hs hw h1)⟩
/-! if -/
theorem rs_ifJ {ka kb : W (Out α σ)} {k : α → W (Out τ σ)} (hc : RT M c ρ tf) (ha : RS M body ρ eme emc ka) (hb : RS M other ρ eme emc kb) (hk : ∀ s, RS M rest (eme s) emb emc (k s)) : RS M (.If c body other pos :: rest) ρ emb emc (joi (ifW tf ka kb) k) := ⟨fun t P D z n => jss_if ((hc.run t _ z).imp fun b t1 z1 => by
  have key : ∀ (o : Out α σ) (t2 : Rs), (match o with | .nx s => k s | .ct s => ret (.ct s) | .bk s => ret (.bk s) | .rt b => ret (.rt b) : W (Out τ σ)) t2 P → endOf { D with nx := fun ρ' t' => JSs M rest ρ' t' D } eme emc o t2 := fun o t2 w => by
    cases o with
    | nx s => exact (hk s).run t2 P D w n
    | ct s => exact n _ _ w
    | bk s => exact n _ _ w
    | rt b => exact n _ _ w
  refine ⟨fun e => ?_, fun e => ?_⟩
  · subst e
    exact ha.run t1 _ _ z1 key
  · subst e
    exact hb.run t1 _ _ z1 key)⟩
/-- if c: body, where body never goes on -/
theorem rs_if0 {ka : W (Out Empty σ)} (hc : RT M c ρ tf) (ha : RS M body ρ nul emc ka) (hk : RS M rest ρ emb emc m) : RS M (.If c body [] pos :: rest) ρ emb emc (ifW tf (upO ka) m) := ⟨fun t P D z n => jss_if0 ((hc.run t _ z).imp fun b t1 z1 => by
  refine ⟨fun e => ?_, fun e => ?_⟩
  · subst e
    refine ha.run t1 _ _ z1 fun o t2 w => ?_
    cases o with
    | nx s => exact nomatch s
    | ct s => exact n _ _ w
    | bk s => exact n _ _ w
    | rt b => exact n _ _ w
  · subst e
    exact hk.run t1 P D z1 n)⟩
/-- if c: body else: other, where body never goes on -/
theorem rs_if1 {ka : W (Out Empty σ)} (hc : RT M c ρ tf) (ha : RS M body ρ nul emc ka) (hk : RS M (other ++ rest) ρ emb emc m) : True := trivial
/-! loops -/
theorem rs_for {gt : TG} {fb : α → PyData → W (Out α α)} {k : α → W (Out τ σ)} (s0 : α) (E : Ev X kk) (hp : PassesOwn (model X.prog X.w) X.A X.env X.xe) (hl : Le ρ (eme s0)) (hg : PG X tg gt) (hi : RI M tg it (eme s0) lf) (hb : ∀ s x, RG (M := M) gt (eme s) x body eme eme (fb s x)) (hk : ∀ s, RS M rest (eme s) emb emc (k s))
    (hs : ∀ x, foldedSetIterable it X.env x = pure x := by intro _; rfl) : RS M (.For tg it body [] pos :: rest) ρ emb emc (bnd lf fun xs => thn (forW fb xs s0) k) := ⟨fun t P D z n => jss_le hl (jss_cons (js_for hp E.calm hg ((hi.run t _ z).imp' fun xs t1 z1 => by
  have fin : ∀ (o : Sum α B) (t2 : Rs), (match o with | .inl s => k s | .inr b => ret (.rt b) : W (Out τ σ)) t2 P → (match o with | .inl s => JSs M rest (eme s) t2 D | .inr b => D.rt b t2) := fun o t2 w => by
    cases o with
    | inl s => exact (hk s).run t2 P D w n
    | inr b => exact n _ _ w
  refine ⟨fun i ρ' t' => ∃ s, ρ' = eme s ∧ forW fb (xs.drop i) s t' (fun o t2 => (match o with | .inl s => k s | .inr b => ret (.rt b) : W (Out τ σ)) t2 P), ⟨s0, rfl, z1⟩, fun i x ρ' t' ex ⟨s, es, w⟩ => ?_, fun ρ' t' ⟨s, es, w⟩ => ?_⟩
  · subst es
    have hx : xs.drop i = x :: xs.drop (i + 1) := by
      obtain ⟨hlt, e⟩ := List.getElem?_eq_some_iff.mp ex
      rw [List.drop_eq_getElem_cons hlt, e]
    rw [hx] at w
    refine (hb s x).run t' _ _ w fun o t2 w2 => ?_
    cases o with
    | nx s2 => exact ⟨s2, rfl, w2⟩
    | ct s2 => exact ⟨s2, rfl, w2⟩
    | bk s2 => exact fin (.inl s2) t2 w2
    | rt b => exact fin (.inr b) t2 w2
  · subst es
    rw [List.drop_length] at w
    exact fin (.inl s) t' w) hs))⟩
theorem rs_while {cw : α → W Bool} {fb : α → W (Out α α)} {k : α → W (Out τ σ)} (s0 : α) (hp : PassesOwn (model X.prog X.w) X.A X.env X.xe) (hl : Le ρ (eme s0)) (hc : ∀ s, RT M c (eme s) (cw s)) (hb : ∀ s, RS M body (eme s) eme eme (fb s)) (hk : ∀ s, RS M rest (eme s) emb emc (k s)) :
    RS M (.While c body [] pos :: rest) ρ emb emc (thn (whW cw fb s0) k) := ⟨fun t P D z n => by
  obtain ⟨m0, z⟩ := z
  have fin : ∀ (o : Sum α B) (t2 : Rs), (match o with | .inl s => k s | .inr b => ret (.rt b) : W (Out τ σ)) t2 P → (match o with | .inl s => JSs M rest (eme s) t2 D | .inr b => D.rt b t2) := fun o t2 w => by
    cases o with
    | inl s => exact (hk s).run t2 P D w n
    | inr b => exact n _ _ w
  refine jss_le hl (jss_cons (js_while hp (fun m ρ' t' => ∃ s, ρ' = eme s ∧ whN cw fb m s t' (fun o t2 => (match o with | .inl s => k s | .inr b => ret (.rt b) : W (Out τ σ)) t2 P)) m0 ⟨s0, rfl, z⟩ fun m ρ' t' ⟨s, es, w⟩ => ?_))
  subst es
  cases m with
  | zero => exact w.elim
  | succ m =>
    refine ((hc s).run t' _ w).imp fun b t1 w1 => ⟨fun e => ?_, fun e => ?_⟩
    · subst e
      refine (hb s).run t1 _ _ w1 fun o t2 w2 => ?_
      cases o with
      | nx s2 => exact ⟨m, Nat.lt_succ_self _, s2, rfl, w2⟩
      | ct s2 => exact ⟨m, Nat.lt_succ_self _, s2, rfl, w2⟩
      | bk s2 => exact fin (.inl s2) t2 w2
      | rt b => exact fin (.inr b) t2 w2
    · subst e
      exact fin (.inl s) t1 w1⟩
end
end Dw
end
section
set_option maxRecDepth 100000
set_option maxHeartbeats 4000000
namespace Dw
open PySem PySem.Spec PyProof.Rows L2 Dl
/-! ### comprehensions -/
section
variable {X : Cx} {Wo : WO} (M : Md X.KK Wo)
structure RGe (gt : TG) (ρ : List B) (x : PyData) (scope : Scope) (elt : Expr) (m : W PyData) : Prop where
  run : ∀ (t : Rs) (P : PyData → Rs → Prop), m t P → DG M gt x ρ fun ρ2 => JDb M scope elt ρ2 t P
structure RGi (gt : TG) (ρ : List B) (x : PyData) (scope : Scope) (cond elt : Expr) (m : W (Option PyData)) : Prop where
  run : ∀ (t : Rs) (P : Option PyData → Rs → Prop), m t P → DG M gt x ρ fun ρ2 => JTb M scope cond ρ2 t fun b t2 => (b = true → JDb M scope elt ρ2 t2 fun y t3 => P (some y) t3) ∧ (b = false → P none t2)
end
def optW (c : W Bool) (m : W PyData) : W (Option PyData) := bnd c fun b => bif b then bnd m fun y => ret (some y) else ret none
def filO (f : PyData → W (Option PyData)) : List PyData → W (List PyData)
  | [] => ret []
  | x :: r => bnd (f x) fun o => match o with
    | some y => bnd (filO f r) fun ys => ret (y :: ys)
    | none => filO f r
def compO (it : W (List PyData)) (f : PyData → W (Option PyData)) : W (List PyData) := bnd it fun xs => need (xs.length ≤ 16777216) (filO f xs)
section
variable {X : Cx} {Wo : WO} {M : Md X.KK Wo} {ρ : List B} {elt cond tg iter a b e : Expr} {pos : Pos} {scope : Scope} {own : List (Str × Nat)} {gt : TG} {lf : W (List PyData)} {kk : Nat}
theorem rge_one (i : Nat) {x : PyData} {m : W PyData} (h : ∀ (s : Shared) (H : Hp) (C : Addr) (cl : List (Str × Addr)) (fp : List Addr), RD (X := Blk X scope s H C cl fp) M elt (ρ.set i (.d x)) m) : RGe M (gName i) ρ x scope elt m := ⟨fun t P z => dg_name fun s H C cl fp => (h s H C cl fp).run t P z⟩
theorem rge_two (i j : Nat) {x : PyData} {k : PyData → PyData → W PyData} (h : ∀ u v (s : Shared) (H : Hp) (C : Addr) (cl : List (Str × Addr)) (fp : List Addr), RD (X := Blk X scope s H C cl fp) M elt ((ρ.set i (.d u)).set j (.d v)) (k u v)) : RGe M (gTup X.KK 2 (gCons (gName i) (gCons (gName j) gNil))) ρ x scope elt (two k x) := ⟨fun t P z => by
  unfold two at z
  split at z
  · exact dg_two fun s H C cl fp => (h _ _ s H C cl fp).run t P z
  · exact z.elim⟩
theorem rge_three (i j l : Nat) {x : PyData} {k : PyData → PyData → PyData → W PyData} (h : ∀ u v w (s : Shared) (H : Hp) (C : Addr) (cl : List (Str × Addr)) (fp : List Addr), RD (X := Blk X scope s H C cl fp) M elt (((ρ.set i (.d u)).set j (.d v)).set l (.d w)) (k u v w)) : RGe M (gTup X.KK 3 (gCons (gName i) (gCons (gName j) (gCons (gName l) gNil)))) ρ x scope elt (three k x) := ⟨fun t P z => by
  unfold three at z
  split at z
  · exact dg_three fun s H C cl fp => (h _ _ _ s H C cl fp).run t P z
  · exact z.elim⟩
theorem opt_run {ρ : List B} {c : W Bool} {m : W PyData} (hc : ∀ (s : Shared) (H : Hp) (C : Addr) (cl : List (Str × Addr)) (fp : List Addr), RT (X := Blk X scope s H C cl fp) M cond ρ c) (hm : ∀ (s : Shared) (H : Hp) (C : Addr) (cl : List (Str × Addr)) (fp : List Addr), RD (X := Blk X scope s H C cl fp) M elt ρ m)
    {t : Rs} {P : Option PyData → Rs → Prop} (z : optW c m t P) : JTb M scope cond ρ t fun b t2 => (b = true → JDb M scope elt ρ t2 fun y t3 => P (some y) t3) ∧ (b = false → P none t2) := fun s H C cl fp => ((hc s H C cl fp).run t _ z).imp fun b t2 z2 => ⟨fun e s H C cl fp => by
  subst e
  exact (hm s H C cl fp).run t2 _ z2, fun e => by
  subst e
  exact z2⟩
theorem rgi_one (i : Nat) {x : PyData} {c : W Bool} {m : W PyData} (hc : ∀ (s : Shared) (H : Hp) (C : Addr) (cl : List (Str × Addr)) (fp : List Addr), RT (X := Blk X scope s H C cl fp) M cond (ρ.set i (.d x)) c) (hm : ∀ (s : Shared) (H : Hp) (C : Addr) (cl : List (Str × Addr)) (fp : List Addr), RD (X := Blk X scope s H C cl fp) M elt (ρ.set i (.d x)) m) : RGi M (gName i) ρ x scope cond elt (optW c m) := ⟨fun t P z => dg_name (opt_run hc hm z)⟩
theorem rgi_two (i j : Nat) {x : PyData} {c : PyData → PyData → W Bool} {m : PyData → PyData → W PyData} (hc : ∀ u v (s : Shared) (H : Hp) (C : Addr) (cl : List (Str × Addr)) (fp : List Addr), RT (X := Blk X scope s H C cl fp) M cond ((ρ.set i (.d u)).set j (.d v)) (c u v)) (hm : ∀ u v (s : Shared) (H : Hp) (C : Addr) (cl : List (Str × Addr)) (fp : List Addr), RD (X := Blk X scope s H C cl fp) M elt ((ρ.set i (.d u)).set j (.d v)) (m u v)) : RGi M (gTup X.KK 2 (gCons (gName i) (gCons (gName j) gNil))) ρ x scope cond elt (two (fun u v => optW (c u v) (m u v)) x) := ⟨fun t P z => by
  unfold two at z
  split at z
  · exact dg_two (opt_run (hc _ _) (hm _ _) z)
  · exact z.elim⟩
theorem rgi_three (i j l : Nat) {x : PyData} {c : PyData → PyData → PyData → W Bool} {m : PyData → PyData → PyData → W PyData} (hc : ∀ u v w (s : Shared) (H : Hp) (C : Addr) (cl : List (Str × Addr)) (fp : List Addr), RT (X := Blk X scope s H C cl fp) M cond (((ρ.set i (.d u)).set j (.d v)).set l (.d w)) (c u v w)) (hm : ∀ u v w (s : Shared) (H : Hp) (C : Addr) (cl : List (Str × Addr)) (fp : List Addr), RD (X := Blk X scope s H C cl fp) M elt (((ρ.set i (.d u)).set j (.d v)).set l (.d w)) (m u v w)) : RGi M (gTup X.KK 3 (gCons (gName i) (gCons (gName j) (gCons (gName l) gNil)))) ρ x scope cond elt (three (fun u v w => optW (c u v w) (m u v w)) x) := ⟨fun t P z => by
  unfold three at z
  split at z
  · exact dg_three (opt_run (hc _ _ _) (hm _ _ _) z)
  · exact z.elim⟩
theorem DG.imp {K : KK} {M : Md K Wo} {gt : TG} {x : PyData} {ρ : List B} {Q Q' : List B → Prop} (h : DG M gt x ρ Q) (i : ∀ r, Q r → Q' r) : DG M gt x ρ Q' := fun t G H σ v S d R r => h t G H σ v S d R fun σ' ρ' S' q => r σ' ρ' S' (i _ q)
theorem jdb_imp {ρ : List B} {t : Rs} {P P' : PyData → Rs → Prop} (h : JDb M scope e ρ t P) (i : ∀ x t', P x t' → P' x t') : JDb M scope e ρ t P' := fun s H C cl fp => (h s H C cl fp).imp i
theorem rl_comp {fe : PyData → W PyData} (E : Ev X kk) (hN : X.N.Nodup) (ok : BlkOk X.N X.env.scope scope own) (hw : Wipes gt (own.map (·.2)))
    (hg : ∀ (s : Shared) (H : Hp) (C : Addr) (cl : List (Str × Addr)) (fp : List Addr), PG (X.blk s H scope (compEnvC scope cl C X.env) fp) tg gt) (hi : RI M tg iter ρ lf) (he : ∀ x, RGe M gt (wipeB ρ (own.map (·.2))) x scope elt (fe x))
    (hs : ∀ x, foldedSetIterable iter X.env x = pure x := by intro _; rfl) : RL M (.ListComp elt [⟨tg, iter, [], 0⟩] scope pos) ρ (compW lf fe) := ⟨fun t P z => jl_comp E.calm hN ok hw hg ((hi.run t _ z).imp' fun xs t1 ⟨hlen, z1⟩ => by
  refine ⟨fun i acc t' => acc.length = i ∧ mapW fe (xs.drop i) t' fun r t2 => P (acc ++ r) t2, ⟨rfl, z1⟩, fun i x acc t' ex ⟨hl, w⟩ => ?_, fun acc t' ⟨hl, w⟩ => ?_⟩
  · obtain ⟨hlt, e⟩ := List.getElem?_eq_some_iff.mp ex
    have hx : xs.drop i = x :: xs.drop (i + 1) := by rw [List.drop_eq_getElem_cons hlt, e]
    rw [hx] at w
    refine DG.imp ((he x).run t' _ w) fun r h => jdb_imp h fun y t3 w3 => ⟨by omega, by rw [List.length_append, hl]; rfl, ?_⟩
    have e2 : (fun (r : List PyData) (t2 : Rs) => P (acc ++ [y] ++ r) t2) = fun r t2 => P (acc ++ y :: r) t2 := by
      funext r t2
      rw [List.append_assoc]
      rfl
    rw [e2]
    exact w3
  · rw [List.drop_length] at w
    have w2 : P (acc ++ []) t' := w
    rw [List.append_nil] at w2
    exact w2) hs⟩
theorem rl_compO {fe : PyData → W (Option PyData)} (E : Ev X kk) (hN : X.N.Nodup) (ok : BlkOk X.N X.env.scope scope own) (hw : Wipes gt (own.map (·.2)))
    (hg : ∀ (s : Shared) (H : Hp) (C : Addr) (cl : List (Str × Addr)) (fp : List Addr), PG (X.blk s H scope (compEnvC scope cl C X.env) fp) tg gt) (hi : RI M tg iter ρ lf) (he : ∀ x, RGi M gt (wipeB ρ (own.map (·.2))) x scope cond elt (fe x))
    (hs : ∀ x, foldedSetIterable iter X.env x = pure x := by intro _; rfl) : RL M (.ListComp elt [⟨tg, iter, [cond], 0⟩] scope pos) ρ (compO lf fe) := ⟨fun t P z => jl_compT E.calm hN ok hw hg ((hi.run t _ z).imp' fun xs t1 ⟨hlen, z1⟩ => by
  refine ⟨fun i acc t' => acc.length ≤ i ∧ filO fe (xs.drop i) t' fun r t2 => P (acc ++ r) t2, ⟨Nat.le_refl _, z1⟩, fun i x acc t' ex ⟨hl, w⟩ => ?_, fun acc t' ⟨hl, w⟩ => ?_⟩
  · obtain ⟨hlt, e⟩ := List.getElem?_eq_some_iff.mp ex
    have hx : xs.drop i = x :: xs.drop (i + 1) := by rw [List.drop_eq_getElem_cons hlt, e]
    rw [hx] at w
    refine DG.imp ((he x).run t' _ w) fun r h => fun s H C cl fp => (h s H C cl fp).imp fun b t2 ⟨h1, h2⟩ => ⟨fun eb => jdb_imp (h1 eb) fun y t3 w3 => ⟨by omega, by rw [List.length_append]; simp only [List.length_cons, List.length_nil]; omega, ?_⟩, fun eb => ⟨by omega, h2 eb⟩⟩
    have e2 : (fun (r : List PyData) (t2 : Rs) => P (acc ++ [y] ++ r) t2) = fun r t2 => P (acc ++ y :: r) t2 := by
      funext r t2
      rw [List.append_assoc]
      rfl
    rw [e2]
    exact w3
  · rw [List.drop_length] at w
    have w2 : P (acc ++ []) t' := w
    rw [List.append_nil] at w2
    exact w2) hs⟩
end
/-! ### lists of slots, changed in place -/
section
variable {X : Cx} {Wo : WO} {M : Md X.KK Wo} {ρ : List B} {e a b : Expr} {pos cpos apos p q : Pos} {x : Str} {f g : W PyData} {kk : Nat} {τ σ : Type} {emb : τ → List B} {emc : σ → List B} {rest : List Stmt} {xs : List PyData}
theorem rd_ixO (i : Nat) (hb : RD M b ρ f) (hr : ρ[i]? = some (.own xs) := by rfl) (hp : PlainIx b := by intro _ _; rfl) (hN : X.N[i]? = some x := by rfl) (hv : Vis X.env.scope x := by first | exact Or.inl rfl | exact Or.inr (Or.inl rfl) | exact Or.inr (Or.inr rfl)) (hd : (x == ("__debug__" : Str)) = false := by decide) (hcd : (x == ("__classdict__" : Str)) = false := by decide) :
    RD M (.Subscript (.Name x p) b pos) ρ (bnd f fun y => oix (.list xs) y) := ⟨fun t P z => jd_ixO i hr ((hb.run t _ z).imp fun y t1 z1 => by
  cases y <;> first | exact z1.elim | skip
  rename_i j
  have z2 : (match atI xs j with | some z => ret z | none => bad) t1 P := z1
  cases e : atI xs j with
  | none => rw [e] at z2; exact z2.elim
  | some z => rw [e] at z2; exact ⟨j, z, rfl, e, z2⟩) hp hN hv hd hcd⟩
theorem rd_lenO (E : Ev X kk) (i : Nat) (hr : ρ[i]? = some (.own xs) := by rfl) (hg : Gl X (Str.ofString "len") := by rfl) (hN : X.N[i]? = some x := by rfl) (hv : Vis X.env.scope x := by first | exact Or.inl rfl | exact Or.inr (Or.inl rfl) | exact Or.inr (Or.inr rfl)) (hd : (x == ("__debug__" : Str)) = false := by decide) (hcd : (x == ("__classdict__" : Str)) = false := by decide)
    (h3 : starEach [.Name x p] X.env = (false, eval (.Name x p) X.env) :: starEach [] X.env := by rfl) : RD M (.Call (.Name (Str.ofString "len") q) [.Name x p] [] pos) ρ (need (xs.length ≤ 16777216) (ret (.int xs.length))) := ⟨fun t P z => jd_lenO i hr E.bu.len z.1 z.2 hg hN hv hd hcd h3⟩
section
variable {k : List PyData → W (Out τ σ)}
theorem rs_append (i : Nat) (ha : RD M e ρ f) (hk : ∀ y, RS M rest (ρ.set i (.own (xs ++ [y]))) emb emc (k (xs ++ [y]))) (hr : ρ[i]? = some (.own xs) := by rfl)
    (hN : X.N[i]? = some x := by rfl) (hv : Vis X.env.scope x := by first | exact Or.inl rfl | exact Or.inr (Or.inl rfl) | exact Or.inr (Or.inr rfl)) (hd : (x == ("__debug__" : Str)) = false := by decide) (hcd : (x == ("__classdict__" : Str)) = false := by decide)
    (hs : swapsWith (.Call (.Attribute (.Name x p) "append" apos) [e] [] cpos) none pos.line X.env = pure false := by rfl) (h3 : starEach [e] X.env = (false, eval e X.env) :: starEach [] X.env := by rfl)
    (h1 : attributeBase (.Name x p) "append" X.env (eval (.Name x p) X.env) = eval (.Name x p) X.env := by rfl)
    (h2 : ((((backTo cpos (starEach [e] X.env)).all fun x => !x.1) && (backToKw cpos (keywordEach [] X.env)).all fun x => x.1.isSome) && decide (([e].length + ([] : List Keyword).length + if ([] : List Keyword).isEmpty = true then 0 else 1) < 30)) = true := by rfl)
    (h4 : (apos.endLine == cpos.line) = true := by rfl) (h5 : ((backTo cpos (starEach [] X.env)).any fun x => x.1) = false := by rfl) : RS M (.Expr (.Call (.Attribute (.Name x p) "append" apos) [e] [] cpos) pos :: rest) ρ emb emc (bnd f fun y => need (xs.length < 16777216) (k (xs ++ [y]))) := ⟨fun t P D z n =>
  jss_cons (js_append i hr ((ha.run t _ z).imp fun y t1 z1 => ⟨z1.1, (hk y).run t1 P D z1.2 n⟩) hN hv hd hcd hs h3 h1 h2 h4 h5)⟩
def extW (f : W PyData) (xs : List PyData) (k : List PyData → W (Out τ σ)) : W (Out τ σ) := bnd f fun y => match y with
  | .list ys => need (xs.length + ys.length ≤ 16777216) (k (xs ++ ys))
  | _ => bad
theorem rs_extend (i : Nat) (ha : RD M e ρ f) (hk : ∀ ys, RS M rest (ρ.set i (.own (xs ++ ys))) emb emc (k (xs ++ ys))) (hr : ρ[i]? = some (.own xs) := by rfl)
    (hN : X.N[i]? = some x := by rfl) (hv : Vis X.env.scope x := by first | exact Or.inl rfl | exact Or.inr (Or.inl rfl) | exact Or.inr (Or.inr rfl)) (hd : (x == ("__debug__" : Str)) = false := by decide) (hcd : (x == ("__classdict__" : Str)) = false := by decide)
    (hs : swapsWith (.Call (.Attribute (.Name x p) "extend" apos) [e] [] cpos) none pos.line X.env = pure false := by rfl) (h3 : starEach [e] X.env = (false, eval e X.env) :: starEach [] X.env := by rfl)
    (h1 : attributeBase (.Name x p) "extend" X.env (eval (.Name x p) X.env) = eval (.Name x p) X.env := by rfl)
    (h2 : ((((backTo cpos (starEach [e] X.env)).all fun x => !x.1) && (backToKw cpos (keywordEach [] X.env)).all fun x => x.1.isSome) && decide (([e].length + ([] : List Keyword).length + if ([] : List Keyword).isEmpty = true then 0 else 1) < 30)) = true := by rfl)
    (h4 : (apos.endLine == cpos.line) = true := by rfl) (h5 : ((backTo cpos (starEach [] X.env)).any fun x => x.1) = false := by rfl) : RS M (.Expr (.Call (.Attribute (.Name x p) "extend" apos) [e] [] cpos) pos :: rest) ρ emb emc (extW f xs k) := ⟨fun t P D z n =>
  jss_cons (js_extend i hr ((ha.run t _ z).imp fun y t1 z1 => by
    cases y <;> first | exact z1.elim | skip
    rename_i ys
    exact ⟨ys, rfl, z1.1, (hk ys).run t1 P D z1.2 n⟩) hN hv hd hcd hs h3 h1 h2 h4 h5)⟩
end
end
/-! ### defs -/
section
variable {X : Cx} {Wo : WO} {M : Md X.KK Wo} {ρ : List B} {body : List Stmt}
theorem fn_run (ρ : List B) {m : W (Out Empty Empty)} {t : Rs} {Q : B → Rs → Prop} (h : RS M body ρ nul nul m) (z : fnW m t Q) : JSs M body ρ t { nx := fun _ t' => Q (.d .none) t', rt := Q } := h.run t _ _ z fun o t' w => by
  cases o with
  | rt b => exact w
  | nx s => exact nomatch s
  | ct s => exact nomatch s
  | bk s => exact nomatch s
theorem fn_runU (ρ : List B) {emb : Unit → List B} {m : W (Out Unit Empty)} {t : Rs} {Q : B → Rs → Prop} (h : RS M body ρ emb nul m) (z : fnU m t Q) : JSs M body ρ t { nx := fun _ t' => Q (.d .none) t', rt := Q } := h.run t _ _ z fun o t' w => by
  cases o with
  | rt b => exact w
  | nx s => exact w
  | ct s => exact nomatch s
  | bk s => exact nomatch s
end
def arg1 (k : PyData → W B) : List B → W B
  | [.d a] => k a
  | _ => bad
def arg2 (k : PyData → PyData → W B) : List B → W B
  | [.d a, .d b] => k a b
  | _ => bad
def arg3 (k : PyData → PyData → PyData → W B) : List B → W B
  | [.d a, .d b, .d c] => k a b c
  | _ => bad
def arg4 (k : PyData → PyData → PyData → PyData → W B) : List B → W B
  | [.d a, .d b, .d c, .d d] => k a b c d
  | _ => bad
def arg5 (k : PyData → PyData → PyData → PyData → PyData → W B) : List B → W B
  | [.d a, .d b, .d c, .d d, .d e] => k a b c d e
  | _ => bad
def argR0 (k : W B) : List B → W B
  | [.rd] => k
  | _ => bad
def argR1 (k : PyData → W B) : List B → W B
  | [.rd, .d a] => k a
  | _ => bad
def argR2 (k : PyData → PyData → W B) : List B → W B
  | [.rd, .d a, .d b] => k a b
  | _ => bad
def argR3 (k : PyData → PyData → PyData → W B) : List B → W B
  | [.rd, .d a, .d b, .d c] => k a b c
  | _ => bad
def argR4 (k : PyData → PyData → PyData → PyData → W B) : List B → W B
  | [.rd, .d a, .d b, .d c, .d d] => k a b c d
  | _ => bad
section
variable {bs : List B} {t : Rs} {Q : B → Rs → Prop}
theorem arg1_of {k} (h : arg1 k bs t Q) : ∃ a, bs = [.d a] ∧ k a t Q := by unfold arg1 at h; split at h <;> first | exact ⟨_, rfl, h⟩ | exact h.elim
theorem arg2_of {k} (h : arg2 k bs t Q) : ∃ a b, bs = [.d a, .d b] ∧ k a b t Q := by unfold arg2 at h; split at h <;> first | exact ⟨_, _, rfl, h⟩ | exact h.elim
theorem arg3_of {k} (h : arg3 k bs t Q) : ∃ a b c, bs = [.d a, .d b, .d c] ∧ k a b c t Q := by unfold arg3 at h; split at h <;> first | exact ⟨_, _, _, rfl, h⟩ | exact h.elim
theorem arg4_of {k} (h : arg4 k bs t Q) : ∃ a b c d, bs = [.d a, .d b, .d c, .d d] ∧ k a b c d t Q := by unfold arg4 at h; split at h <;> first | exact ⟨_, _, _, _, rfl, h⟩ | exact h.elim
theorem arg5_of {k} (h : arg5 k bs t Q) : ∃ a b c d e, bs = [.d a, .d b, .d c, .d d, .d e] ∧ k a b c d e t Q := by unfold arg5 at h; split at h <;> first | exact ⟨_, _, _, _, _, rfl, h⟩ | exact h.elim
theorem argR0_of {k} (h : argR0 k bs t Q) : bs = [.rd] ∧ k t Q := by unfold argR0 at h; split at h <;> first | exact ⟨rfl, h⟩ | exact h.elim
theorem argR1_of {k} (h : argR1 k bs t Q) : ∃ a, bs = [.rd, .d a] ∧ k a t Q := by unfold argR1 at h; split at h <;> first | exact ⟨_, rfl, h⟩ | exact h.elim
theorem argR2_of {k} (h : argR2 k bs t Q) : ∃ a b, bs = [.rd, .d a, .d b] ∧ k a b t Q := by unfold argR2 at h; split at h <;> first | exact ⟨_, _, rfl, h⟩ | exact h.elim
theorem argR3_of {k} (h : argR3 k bs t Q) : ∃ a b c, bs = [.rd, .d a, .d b, .d c] ∧ k a b c t Q := by unfold argR3 at h; split at h <;> first | exact ⟨_, _, _, rfl, h⟩ | exact h.elim
theorem argR4_of {k} (h : argR4 k bs t Q) : ∃ a b c d, bs = [.rd, .d a, .d b, .d c, .d d] ∧ k a b c d t Q := by unfold argR4 at h; split at h <;> first | exact ⟨_, _, _, _, rfl, h⟩ | exact h.elim
end
end Dw
end
section
set_option maxRecDepth 100000
set_option maxHeartbeats 4000000
namespace Dz
open PySem PySem.Spec PyProof.Rows L2 Dl
/-- what is no part of the zip -/
theorem far_of {b n c : Nat} (h : c ∉ List.range' b (n + 3)) : c < b ∨ b + n + 2 < c := by
  rw [List.mem_range'_1] at h
  omega
theorem in_of {b n c : Nat} (h : c ∈ List.range' b (n + 3)) : b ≤ c ∧ c < b + (n + 3) := List.mem_range'_1.mp h
theorem in_cases {b n c : Nat} (h1 : b ≤ c) (h2 : c < b + (n + 3)) : c = b + n + 2 ∨ c = b + n + 1 ∨ c = b + n ∨ ∃ k, k < n ∧ c = b + k := by
  by_cases h : c < b + n
  · exact .inr (.inr (.inr ⟨c - b, by omega, by omega⟩))
  · omega
theorem lt_of_in {b n c z : Nat} (h : c < b + (n + 3)) (h2 : b + n + 2 < z) : c < z := by omega
/-- the walk over zip of the tuples ls, which hold rows, of m items each -/
def Itz (K : PySem.W.Frag) (ls : List Addr) (rows : List (List V)) (m : Nat) : It :=
  ⟨fun i H => i < m ∧ ∀ (k : Nat) (l : Addr) (r : List V), ls[k]? = some l → rows[k]? = some r → SqT K H l r,
    fun i H v H' => ∃ T, v = .ref T ∧ H T = none ∧ H' = upd H T (.tup (rows.map fun r => r.getD i .non)),
    fun i H => m ≤ i ∧ ∀ (k : Nat) (l : Addr) (r : List V), ls[k]? = some l → rows[k]? = some r → SqT K H l r⟩
theorem vals_mk : ∀ (rows : List V) (us : List Value), rows.length = us.length → (∀ (k : Nat) (r : V) (u : Value), rows[k]? = some r → us[k]? = some u → RelV r u) → Vals rows us
  | [], [], _, _ => .nil
  | r :: rs, u :: us, h, f => .cons (f 0 r u rfl rfl) (vals_mk rs us (by simpa using h) fun k r u a b => f (k + 1) r u a b)
  | [], u :: us, h, _ => by cases h
  | r :: rs, [], h, _ => by cases h
theorem turn_zn {P : Program} {w : World} {K : PySem.W.Frag} {x : Str} {tp : Pos} {b m : Nat} {ls : List Addr} {rows : List (List V)} (pos : 0 < ls.length) (few : ls.length ≤ 9) (hr : rows.length = ls.length) (hm : ∀ r ∈ rows, r.length = m) (lt : ∀ l ∈ ls, l < b) :
    Turn P w K (.Name x tp) (Itz K ls rows m) (List.range' b (ls.length + 3)) (b + ls.length + 2) (fun i h => Zs h b ls i) where
  mem := List.mem_range'_1.mpr ⟨by omega, by omega⟩
  obj := fun i h S c hc => by
    obtain ⟨c1, c2⟩ := in_of hc
    obtain ⟨f0, f1, hz, _⟩ := S.z
    obtain ⟨vs, _, hto⟩ := S.to
    rcases in_cases c1 c2 with e | e | e | ⟨k, hk, e⟩
    · subst e
      exact ⟨_, hz, fun v q => nomatch q⟩
    · subst e
      exact ⟨_, hto, fun v q => nomatch q⟩
    · subst e
      exact ⟨_, S.ti, fun v q => nomatch q⟩
    · subst e
      obtain ⟨o, ho, _, hd⟩ := S.it k _ (List.getElem?_eq_getElem hk)
      exact ⟨o, ho, fun v q => by rw [hd] at q; cases q⟩
  keep := fun i h h' S k => by
    obtain ⟨f0, f1, hz, hf⟩ := S.z
    obtain ⟨vs, hvs, hto⟩ := S.to
    have inn : ∀ c, b ≤ c → c < b + (ls.length + 3) → c ∈ List.range' b (ls.length + 3) := fun c p q => List.mem_range'_1.mpr ⟨p, q⟩
    exact ⟨⟨f0, f1, k _ (inn _ (by omega) (by omega)) _ hz, hf⟩, k _ (inn _ (by omega) (by omega)) _ S.ti, ⟨vs, hvs, k _ (inn _ (by omega) (by omega)) _ hto⟩, fun j l ej => by
      have hj : j < ls.length := (List.getElem?_eq_some_iff.mp ej).1
      exact (S.it j l ej).at fun o e => k _ (inn _ (by omega) (by omega)) o e⟩
  item := by
    intro X hP hw hK hc i pins s σ H E I hf S hg
    subst hP hw hK
    obtain ⟨him, hsq⟩ := hg
    have tups : ∀ k : Nat, ∃ its : List Value, ∀ (l : Addr) (r : List V), ls[k]? = some l → rows[k]? = some r → Vals r its ∧ s.heap.IsTuple l its.toArray := fun k => by
      cases el : ls[k]? with
      | none => exact ⟨[], fun l r h => by cases h⟩
      | some l =>
        cases er : rows[k]? with
        | none => exact ⟨[], fun l r _ h => by cases h⟩
        | some r =>
          obtain ⟨its, rv, p, _⟩ := I.tuple (hsq k l r el er)
          exact ⟨its, fun l' r' h1 h2 => by cases h1; cases h2; exact ⟨rv, p⟩⟩
    obtain ⟨its, hits⟩ := Classical.axiomOfChoice tups
    have rowAt : ∀ k, k < ls.length → ∃ l r, ls[k]? = some l ∧ rows[k]? = some r ∧ r.length = m := fun k hk => by
      have hk2 : k < rows.length := by omega
      exact ⟨ls[k], rows[k], List.getElem?_eq_getElem hk, List.getElem?_eq_getElem hk2, hm _ (List.getElem_mem hk2)⟩
    have hx : ∀ k : Nat, k < ls.length → ∃ u, ((List.range ls.length).map fun k => (its k).getD i .none)[k]? = some u ∧ (its k).toArray[i]? = some u := fun k hk => by
      obtain ⟨l, r, el, er, hrm⟩ := rowAt k hk
      obtain ⟨rv, _⟩ := hits k l r el er
      have hlen : i < (its k).length := by rw [← rv.length, hrm]; exact him
      refine ⟨(its k)[i], ?_, by simp [hlen]⟩
      simp [hk, hlen]
    have hzl : b + ls.length + 2 < s.heap.objs.size := by
      obtain ⟨f0, f1, hz, _⟩ := S.z
      exact Heap.lt_size hz
    refine next_item (arr := fun k => (its k).toArray) (xs := (List.range ls.length).map fun k => (its k).getD i .none) S pos (Nat.le_trans few (by decide)) (fun k l el => lt l (List.mem_of_getElem? el)) (fun k l el => ?_) hx (by simp) fun h' S' hT hsz hfar => ?_
    · have hk : k < ls.length := (List.getElem?_eq_some_iff.mp el).1
      obtain ⟨l', r, el', er, _⟩ := rowAt k hk
      rw [el] at el'
      cases el'
      exact (hits k l r el er).2
    have vals : Vals (rows.map fun r => r.getD i .non) ((List.range ls.length).map fun k => (its k).getD i .none) := vals_mk _ _ (by simp [hr]) fun k v u ev eu => by
      rw [List.getElem?_map] at ev eu
      have hk : k < ls.length := by
        by_cases q : k < ls.length
        · exact q
        · rw [List.getElem?_eq_none (by simp; omega)] at eu
          cases eu
      obtain ⟨l, r, el, er, hrm⟩ := rowAt k hk
      obtain ⟨rv, _⟩ := hits k l r el er
      rw [er] at ev
      rw [List.getElem?_range hk] at eu
      cases ev
      cases eu
      obtain ⟨z, ez⟩ : ∃ z, r[i]? = some z := ⟨r[i]'(by rw [hrm]; exact him), List.getElem?_eq_getElem _⟩
      obtain ⟨y, ey, ry⟩ := rv.get ez
      simp only [List.getD, ez, ey, Option.getD_some]
      exact ry
    have new : ObjOk X.prog X.w (upd H s.heap.objs.size (.tup (rows.map fun r => r.getD i .non))) h' s.heap.objs.size (.tup (rows.map fun r => r.getD i .non)) :=
      ⟨by rw [List.length_map, hr, sizeLine_eq]; omega, _, vals, ⟨_, hT, rfl, _, rfl⟩⟩
    have I1 : Inv X pins σ (upd H s.heap.objs.size (.tup (rows.map fun r => r.getD i .non))) { s with heap := h' } :=
      I.turnedNew (t' := s.toks) (ch := List.range' b (ls.length + 3)) (fun c o hb q => hfar c o (far_of hb) q) hf (Nat.le_refl _) new
    refine ⟨_, rfl, wpAny_pure ⟨.ref s.heap.objs.size, _, I1, rfl, ⟨_, rfl, I.hok.fresh (Nat.le_refl _), rfl⟩, S', fun c hcm => ?_⟩⟩
    have hlt : c < s.heap.objs.size := lt_of_in (in_of hcm).2 hzl
    rw [upd_ne (Nat.ne_of_lt hlt)]
    exact (hf c hcm).1
  done := by
    intro X hP hw hK hc i pins s σ H E I hf S hg
    subst hP hw hK
    obtain ⟨him, hsq⟩ := hg
    have hk2 : 0 < rows.length := by omega
    have el : ls[0]? = some ls[0] := List.getElem?_eq_getElem pos
    have er : rows[0]? = some rows[0] := List.getElem?_eq_getElem hk2
    obtain ⟨its, rv, p, _⟩ := I.tuple (hsq 0 _ _ el er)
    have hl0 : its.length = m := by rw [← rv.length]; exact hm _ (List.getElem_mem hk2)
    refine next_end (I.ok.hd hc) S el (show s.heap.IsTuple _ its.toArray from p) (by simp; omega) fun h' hfar => ⟨rfl, I.turnedL (t' := s.toks) (ch := List.range' b (ls.length + 3)) (fun c o hb q => hfar c o (far_of hb) q) hf⟩
  self := fun A i s Q E S h => iter_zn S h
end Dz
end
section
set_option maxRecDepth 100000
set_option maxHeartbeats 4000000
namespace Dz
open PySem PySem.Spec PyProof.Rows L2 Dl Dw
/-! ### zip(x, *ys) walked -/
theorem callWith_typeS {M : Model} {A : Around} {E : Value → Shared → Prop} {s : Shared} {pos : Pos} {T : String} {args : List (Bool × Sem Value)} {Q : Value → Shared → Prop} (hst : args.any (·.1) = true)
    (h : wpAny M A (evalArgs (.type T) true args []) (fun a z => wpAny M A (call (.type T) a.pos a.kw) Q E z) E s) : wpAny M A (callWith pos (.type T) [] args []) Q E s := by
  unfold callWith
  refine wpAny_bind (wpAny_holding (wpAny_mono h (fun a z hz => wpAny_bind (wpAny_standAt ?_)) fun _ _ q => q))
  simp only [hst, Bool.true_or]
  refine wpAny_bind (wpAny_pure ?_)
  refine wpAny_bind (wpAny_operateT (wpAny_mono hz (fun r y hr => ?_) fun _ _ q => q))
  exact wpAny_bind (wpAny_holding (wpAny_point (wpAny_pure hr)))
def iZipN (K : PySem.W.Frag) (ta : TA) : TI := fun σ H R => ta σ H fun vs H1 => ∃ (ls : List Addr) (rows : List (List V)) (m : Nat), vs = ls.map V.ref ∧ 0 < ls.length ∧ ls.length ≤ 9 ∧ rows.length = ls.length ∧ (∀ r ∈ rows, r.length = m) ∧
  (∀ (k : Nat) (l : Addr) (r : List V), ls[k]? = some l → rows[k]? = some r → SqT K H1 l r) ∧ R (Itz K ls rows m) H1
theorem vals_refs : ∀ {ls : List Addr} {us : List Value}, Vals (ls.map V.ref) us → us = ls.map Value.ref
  | [], _, .nil => rfl
  | l :: ls, _, .cons r h => by
    obtain rfl := (show _ = Value.ref l from r)
    rw [List.map_cons, vals_refs h]
theorem pi_zipS {X : Cx} {e : Expr} {es : List Expr} {ta : TA} {x : Str} {p tp pos : Pos} (hg : Gl X "zip") (hm : X.mg "zip" = none) (ha : PA X (e :: es) ta)
    (hs : starEach (e :: es) X.env = (false, eval e X.env) :: starEach es X.env := by rfl) (hst : (backTo pos (starEach es X.env)).any (·.1) = true := by rfl) :
    PI X (.Name x tp) (.Call (.Name "zip" p) (e :: es) [] pos) (iZipN X.KK ta) := by
  refine ⟨fun pins s σ H R I h => ?_⟩
  have h1 := thn (ha.run pos pins s σ H _ I h) fun us s1 (z : AP X pins σ _ us s1) => z
  refine Call_ (ld_blt I hg hm PyProof.Rows.boot_zip ?_)
  rw [hs] at h1 ⊢
  refine callWith_typeS (by show (false || (backTo pos (starEach es X.env)).any (·.1)) = true; rw [hst]; rfl) (PySem.Calls.evalArgs_plain (wpAny_mono h1 (fun us s1 z => ?_) fun _ _ q => q))
  obtain ⟨vs, H1, I1, r1, ls, rows, m, ev, pos0, few, hr, hm2, hsq, q⟩ := z
  subst ev
  obtain rfl := vals_refs r1
  have rowAt : ∀ l ∈ ls, ∃ its, s1.heap.IsTuple l its ∧ l < s1.heap.objs.size := fun l hl => by
    obtain ⟨k, hk, e⟩ := List.getElem_of_mem hl
    have hk2 : k < rows.length := by omega
    obtain ⟨its, rv, p1, _⟩ := I1.tuple (hsq k l rows[k] (by rw [List.getElem?_eq_getElem hk, e]) (List.getElem?_eq_getElem hk2))
    obtain ⟨o, ho, _⟩ := id p1
    exact ⟨its.toArray, p1, Heap.lt_size ho⟩
  refine call_zn few (fun l hl => ⟨_, (rowAt l hl).choose_spec.1⟩) fun h' Z sz hk => iter_zn Z ?_
  have I2 : Inv X pins σ H1 { s1 with heap := h' } := I1.kept (t' := s1.toks) hk
  refine ⟨_, List.range' s1.heap.objs.size (ls.length + 3), _, _, H1, rfl, I2, turn_zn pos0 few hr hm2 fun l hl => (rowAt l hl).choose_spec.2, Z, fun c hc => ?_, q⟩
  have hle : s1.heap.objs.size ≤ c := (in_of hc).1
  exact I1.fpOk hle (I1.hok.fresh hle)
/-- the columns of rows of data -/
def cols (rows : List (List PyData)) (m : Nat) : List PyData := (List.range m).map fun i => .tuple (rows.map fun r => r.getD i .none)
theorem deAll_col {K : KK} {G : Hp} {m i : Nat} (hi : i < m) : ∀ {vrows : List (List V)} {rows : List (List PyData)}, vrows.length = rows.length → (∀ (k : Nat) (v : List V) (r : List PyData), vrows[k]? = some v → rows[k]? = some r → DeAll K G v r ∧ r.length = m) →
    DeAll K G (vrows.map fun r => r.getD i .non) (rows.map fun r => r.getD i .none)
  | [], [], _, _ => .nil
  | v :: vs, r :: rs, h, f => by
    obtain ⟨d, hl⟩ := f 0 v r rfl rfl
    obtain ⟨z, ez⟩ : ∃ z, r[i]? = some z := ⟨r[i]'(by omega), List.getElem?_eq_getElem _⟩
    obtain ⟨u, eu, du⟩ := d.at_ ez
    refine .cons ?_ (deAll_col hi (by simpa using h) fun k v' r' a b => f (k + 1) v' r' a b)
    simp only [List.getD, ez, eu, Option.getD_some]
    exact du
  | [], r :: rs, h, _ => by cases h
  | v :: vs, [], h, _ => by cases h
theorem wk_zn {K : KK} {Wo : WO} {M : Md K Wo} {G0 : Hp} {ls : List Addr} {vrows : List (List V)} {rows : List (List PyData)} {m : Nat} (hv : vrows.length = rows.length) (hl : ls.length = rows.length)
    (h : ∀ (k : Nat) (l : Addr) (v : List V) (r : List PyData), ls[k]? = some l → vrows[k]? = some v → rows[k]? = some r → SqT K G0 l v ∧ DeAll K G0 v r ∧ r.length = m) : Wk M G0 (Itz K ls vrows m) (cols rows m) := by
  have row : ∀ k l v, ls[k]? = some l → vrows[k]? = some v → ∃ r, rows[k]? = some r := fun k l v e1 e2 => by
    have : k < vrows.length := (List.getElem?_eq_some_iff.mp e2).1
    exact ⟨rows[k]'(by omega), List.getElem?_eq_getElem _⟩
  have len : (cols rows m).length = m := by simp [cols]
  refine ⟨fun i t G H e k hi => ⟨by rw [len] at hi; exact hi, fun j l v e1 e2 => ?_⟩, fun i t G H e k hi => ⟨by rw [len] at hi; exact hi, fun j l v e1 e2 => ?_⟩, fun i t G H x H' e k y hi => ?_⟩
  · obtain ⟨r, er⟩ := row j l v e1 e2
    exact sqt_up (e.trans k.sub) (h j l v r e1 e2 er).1
  · obtain ⟨r, er⟩ := row j l v e1 e2
    exact sqt_up (e.trans k.sub) (h j l v r e1 e2 er).1
  · rw [len] at hi
    obtain ⟨T, rfl, hT, rfl⟩ := y
    have st := k.lay (o := .tup (vrows.map fun r => r.getD i .non)) hT
    refine ⟨_, .tuple (rows.map fun r => r.getD i .none), st, by simp [cols, hi], .tup (.inl (.inl upd_same)) (deAll_col hi hv fun k' v r e1 e2 => ?_)⟩
    have hk : k' < ls.length := by
      have := (List.getElem?_eq_some_iff.mp e2).1
      omega
    obtain ⟨_, d, hlr⟩ := h k' ls[k'] v r (List.getElem?_eq_getElem hk) e1 e2
    exact ⟨DeAll.up (e.trans st.gg) _ _ d, hlr⟩
/-- rows of data -/
def rowsOf : List PyData → Option (List (List PyData))
  | [] => some []
  | .tuple r :: q => (rowsOf q).map (r :: ·)
  | _ => none
theorem rowsOf_some : ∀ {xs : List PyData} {rs : List (List PyData)}, rowsOf xs = some rs → xs = rs.map PyData.tuple
  | [], rs, h => by cases h; rfl
  | x :: r, rs, h => by
    cases x with
    | tuple b =>
      rw [rowsOf] at h
      cases e : rowsOf r with
      | none => rw [e] at h; cases h
      | some cs =>
        rw [e] at h
        cases h
        rw [List.map_cons, ← rowsOf_some e]
    | _ => cases h
theorem rowsOf_map : ∀ rs : List (List PyData), rowsOf (rs.map PyData.tuple) = some rs
  | [] => rfl
  | r :: rs => by rw [List.map_cons, rowsOf, rowsOf_map]; rfl
/-- zip(x, *ys): the columns -/
def zipS (f g : W PyData) : W (List PyData) := bnd f fun x => bnd g fun y => match x, y with
  | .tuple r, .tuple ys => match rowsOf ys with
    | some rs => need (rs.length ≤ 8 ∧ ∀ q ∈ rs, q.length = r.length) (Dw.ret (cols (r :: rs) r.length))
    | none => bad
  | _, _ => bad
section
variable {X : Cx} {Wo : WO} {M : Md X.KK Wo} {ρ : List B} {a b : Expr} {pos p p2 tp : Pos} {f g : W PyData} {kk : Nat} {x : Str}
theorem rows_at {K : KK} {G : Hp} : ∀ {vs : List V} {rs : List (List PyData)}, DeAll K G vs (rs.map PyData.tuple) → ∃ (ls : List Addr) (vr : List (List V)), vs = ls.map V.ref ∧ ls.length = rs.length ∧ vr.length = rs.length ∧ ∀ (k : Nat) (l : Addr) (v : List V) (r : List PyData), ls[k]? = some l → vr[k]? = some v → rs[k]? = some r → SqT K G l v ∧ DeAll K G v r
  | vs, [], h => by
    cases h
    exact ⟨[], [], rfl, rfl, rfl, fun k l v r e => by cases e⟩
  | vs, q :: rs, h => by
    rw [List.map_cons] at h
    cases h with
    | cons d h2 =>
      obtain ⟨a, ws, rfl, st, da⟩ := d.tupE
      obtain ⟨ls, vr, e1, e2, e3, e4⟩ := rows_at h2
      exact ⟨a :: ls, ws :: vr, by rw [List.map_cons, e1], by rw [List.length_cons, List.length_cons, e2], by rw [List.length_cons, List.length_cons, e3], fun k l v r h1 h2 h3 => by
        cases k with
        | zero =>
          cases h1
          cases h2
          cases h3
          exact ⟨st, da⟩
        | succ k => exact e4 k l v r h1 h2 h3⟩
theorem ri_zipS (E : Ev X kk) (ha : RD M a ρ f) (hb : RD M b ρ g) (hg : Gl X "zip" := by rfl) (hs : starEach [a, .Starred b p2] X.env = (false, eval a X.env) :: starEach [.Starred b p2] X.env := by rfl) (hst : (backTo pos (starEach [.Starred b p2] X.env)).any (·.1) = true := by rfl)
    (hs2 : starEach (.Starred b p2 :: []) X.env = (true, eval b X.env) :: starEach [] X.env := by rfl) : RI M (.Name x tp) (.Call (.Name "zip" p) [a, .Starred b p2] [] pos) ρ (zipS f g) := ⟨fun t P z σ G H S R r =>
  TiOf.of (pi_zipS hg E.bu.zip (pa_cons peT (StX.pa_star peT pa_nil hs2) hs) hs hst) ((ha.run t _ z) σ G H S _ fun G1 H1 v y t1 s1 d1 z1 => (hb.run t1 _ z1) σ G1 H1 (S.step s1) _ fun G2 H2 u w t2 s2 d2 z2 => by
    cases y <;> first | exact z2.elim | skip
    cases w <;> first | exact z2.elim | skip
    rename_i row ys
    have z3 : (match rowsOf ys with | some rs => need (rs.length ≤ 8 ∧ ∀ q ∈ rs, q.length = row.length) (Dw.ret (cols (row :: rs) row.length)) | none => bad) t2 P := z2
    cases e : rowsOf ys with
    | none => rw [e] at z3; exact z3.elim
    | some rs =>
      rw [e] at z3
      obtain rfl := rowsOf_some e
      obtain ⟨⟨few, hq⟩, zP⟩ := z3
      have k2 := ((S.step s1).step s2).ok
      obtain ⟨a2, ws, rfl, st, da⟩ := d2.tupE
      have d1' := De.up s2.gg _ _ d1
      obtain ⟨a1, w1, rfl, st1, da1⟩ := d1'.tupE
      obtain ⟨ls, vr, e1, e2, e3, e4⟩ := rows_at da
      refine ⟨a2, ws, rfl, .inl (sqt_up k2.sub st), ?_⟩
      have wk : Wk M G2 (Itz X.KK (a1 :: ls) (w1 :: vr) row.length) (cols (row :: rs) row.length) := wk_zn (by simp [e3]) (by simp [e2]) fun k l v q h1 h2 h3 => by
        cases k with
        | zero =>
          cases h1
          cases h2
          cases h3
          exact ⟨st1, da1, rfl⟩
        | succ k =>
          have := e4 k l v q h1 h2 h3
          exact ⟨this.1, this.2, hq q (List.mem_of_getElem? h3)⟩
      refine ⟨a1 :: ls, w1 :: vr, row.length, by rw [e1]; simp, by simp, by simp; omega, by simp; omega, fun q hq2 => ?_, fun k l q h1 h2 => ?_, r G2 H2 _ _ t2 (s1.trans s2) wk zP⟩
      · rcases List.mem_cons.mp hq2 with rfl | hm
        · exact da1.length
        · obtain ⟨k, hk, ek⟩ := List.getElem_of_mem hm
          have hk2 : k < rs.length := by omega
          have hk3 : k < ls.length := by omega
          have := (e4 k ls[k] vr[k] rs[k] (List.getElem?_eq_getElem hk3) (List.getElem?_eq_getElem hk) (List.getElem?_eq_getElem hk2)).2.length
          rw [← ek, this]
          exact hq _ (List.getElem_mem hk2)
      · cases k with
        | zero =>
          cases h1
          cases h2
          exact sqt_up k2.sub st1
        | succ k =>
          have hk2 : k < rs.length := by
            have := (List.getElem?_eq_some_iff.mp h2).1
            simp at this
            omega
          exact sqt_up k2.sub (e4 k l q rs[k] h1 h2 (List.getElem?_eq_getElem hk2)).1)⟩
end
end Dz
end
section
set_option maxRecDepth 100000
set_option maxHeartbeats 4000000
namespace Dz
open PySem PySem.Spec PyProof.Rows L2 Dl Dw
/-! ### sum of a tuple of ints -/
def rSumT (K : KK) : List V → Hp → VK → Prop := fun vs H Q => ∃ (a : Addr) (ns : List Int), vs = [V.ref a] ∧ SqT K H a (ns.map V.int) ∧ Q (.int ns.sum) H
theorem cr_sumT {X : Cx} (hc : X.calm = true) : CallR X (.builtin "sum") (rSumT X.KK) := by
  intro pins s σ H vs us Q I r h
  obtain ⟨a, ns, rfl, hs, q⟩ := h
  obtain ⟨its, rv, hl, _⟩ := I.tuple hs
  rw [Vals.ref1 r]
  obtain ⟨xs, hx⟩ := rv.ints.allInts.items
  have hn : numsOf its.toArray.toList = ns := by rw [show its.toArray.toList = its from rfl, rv.ints.numsOf]
  rw [hx] at hn
  rw [nums_intItems] at hn
  refine PySem.W.ktm_sumG (I.ok.hd hc) (xs := xs) (by rw [← hx]; exact hl) fun h' tk t' hk => ?_
  rw [preSum_eq, List.take_of_length_le (by simp), hn]
  exact ⟨.int _, H, I.kept hk, ⟨_, rfl⟩, q⟩
def intsOf : List PyData → Option (List Int)
  | [] => some []
  | .int b :: r => (intsOf r).map (b :: ·)
  | _ => none
theorem intsOf_map : ∀ bs : List Int, intsOf (bs.map PyData.int) = some bs
  | [] => rfl
  | b :: bs => by rw [List.map_cons, intsOf, intsOf_map]; rfl
theorem intsOf_some : ∀ {xs : List PyData} {bs : List Int}, intsOf xs = some bs → xs = bs.map PyData.int
  | [], bs, h => by cases h; rfl
  | x :: r, bs, h => by
    cases x with
    | int b =>
      rw [intsOf] at h
      cases e : intsOf r with
      | none => rw [e] at h; cases h
      | some cs =>
        rw [e] at h
        cases h
        rw [List.map_cons, ← intsOf_some e]
    | _ => cases h
def osumT (x : PyData) : W PyData := match x with
  | .tuple xs => match intsOf xs with
    | some ns => Dw.ret (.int ns.sum)
    | none => bad
  | _ => bad
theorem boot_sum' : bootBuiltins (Str.ofString "sum") = some (.builtin "sum") := by decide +kernel
section
variable {X : Cx} {Wo : WO} {M : Md X.KK Wo} {ρ : List B} {a b e : Expr} {pos p cpos apos : Pos} {f g : W PyData} {lf : W (List PyData)} {kk : Nat} {τ σ : Type} {emb : τ → List B} {emc : σ → List B} {rest : List Stmt}
theorem rd_sumT (E : Ev X kk) (ha : RD M a ρ f) (hs : starEach [a] X.env = (false, eval a X.env) :: starEach [] X.env := by rfl) (hg : Gl X (Str.ofString "sum") := by rfl) : RD M (.Call (.Name (Str.ofString "sum") p) [a] [] pos) ρ (op1 osumT f) := ⟨fun t P z =>
  jd_callB (cr_sumT E.calm) hg E.bu.sum boot_sum' (ja_one (ha.run t _ z) (fun x t1 z1 => by
    cases x <;> first | exact z1.elim | skip
    rename_i xs
    have z2 : (match intsOf xs with | some ns => Dw.ret (PyData.int ns.sum) | none => bad) t1 P := z1
    cases e : intsOf xs with
    | none => rw [e] at z2; exact z2.elim
    | some ns =>
      rw [e] at z2
      obtain rfl := intsOf_some e
      intro G H vs k ar Q q
      obtain ⟨v, rfl, d⟩ := arg1 ar
      obtain ⟨a1, ws, rfl, st, da⟩ := d.tupE
      exact ⟨a1, ns, rfl, by rw [← da.ints]; exact sqt_up k.sub st, keep k q (.int _) z2⟩) hs) (by decide) (by decide) hs rfl⟩
/-! ### a tuple many times -/
def rRep1 (K : KK) : R2 := fun x y H Q => ∃ l xs, x = .ref l ∧ y = .int 1 ∧ SqT K H l xs ∧ xs ≠ [] ∧ Q (.ref l) H
theorem mul_one (l : Addr) (items : Array Value) (n : Nat) (dd : Option Addr) (sl : Array (Option Value)) (u : Tok) :
    Meets (Builtin.«tuple.__mul__» ⟨[.ref l, .int 1 u], []⟩) (fun _ R s => s.heap.get? l = some { cls := .type "tuple", dict := dd, data := .seq items n, slots := sl } ∧ R (.ok (.ret (Value.ref l))) s) :=
  .of_wp fun prog w A R s h => by
    obtain ⟨hp, g, d, tk, os⟩ := s
    obtain ⟨hl, h⟩ := h
    have f1 := AutoSeq1.idx_int
    wp_walk using wpAny_loadPart' hl
    exact ⟨_, rfl, h⟩
theorem op_rep1 : OpR X (binaryOp .Mult) (rRep1 X.KK) := by
  intro pins s σ H x y v u Q I rx ry h
  obtain ⟨l, xs, rfl, rfl, hT, hne, q⟩ := h
  cases rx
  obtain ⟨t, rfl⟩ := ry
  obtain ⟨its, r, ⟨⟨cls, dd, data, sl⟩, ho, hc, n, hd⟩, hs⟩ := I.tuple hT
  simp only at hc hd
  subst hc hd
  refine wpAny_binaryOp_repeat_ref (T := "tuple") (U := "int") (by decide) ⟨_, ho, rfl⟩ (fun z => typeIs_int z 1 t) noFill_tuple_mul F.fills_int_mul F.slot_int_rmul repeat_tuple F.slot_int_index.lookup
    (call_meets F.slot_int_rmul (typeIs_int s 1 t) F.entry_int_rmul (F.args_int_rmul_2 _ _) (int_rmul_tuple 1 t l its.toArray n dd sl)
      ⟨ho, rfl, ⟨_, ho, rfl⟩, call_meets F.slot_tuple_mul ⟨_, ho, rfl⟩ F.entry_tuple_mul (F.args_tuple_mul_2 _ _) (mul_one l its.toArray n dd sl t) ⟨ho, ?_⟩⟩)
  exact ⟨.ref l, H, I, rfl, q⟩
def orepT : PyData → PyData → W PyData
  | .tuple xs, .int k => need (xs ≠ [] ∧ 1 ≤ k ∧ k ≤ 1000 ∧ xs.length ≤ 1000) (Dw.ret (.tuple (List.replicate k.toNat xs).flatten))
  | _, _ => bad
theorem DeAll.flat {K : KK} {G : Hp} {vs : List V} {ds : List PyData} (h : DeAll K G vs ds) : ∀ n : Nat, DeAll K G (List.replicate n vs).flatten (List.replicate n ds).flatten
  | 0 => .nil
  | n + 1 => by
    rw [List.replicate_succ, List.replicate_succ, List.flatten_cons, List.flatten_cons]
    exact h.app (DeAll.flat h n)
theorem rd_repT (ha : RD M a ρ f) (hb : RD M b ρ g) : RD M (.BinOp a .Mult b pos) ρ (op2 orepT f g) := rd_bin (opr_or op_rep1 op_repT) (Ob.or fun x y t P z => by
  cases x <;> first | exact z.elim | skip
  cases y <;> first | exact z.elim | skip
  rename_i xs k
  obtain ⟨⟨hne, h1, h2, hz⟩, zP⟩ := z
  by_cases hk : k = 1
  · subst hk
    refine .inl fun G H v w o hv hw Q q => ?_
    obtain ⟨a1, vs, rfl, st, da⟩ := hv.tupE
    refine ⟨a1, vs, rfl, hw.intE, sqt_up o.sub st, fun e => hne (List.eq_nil_of_length_eq_zero (by rw [← da.length, e]; rfl)), ?_⟩
    have e1 : (List.replicate (1 : Int).toNat xs).flatten = xs := by simp
    rw [e1] at zP
    exact keep o q hv zP
  · refine .inr fun G H v w o hv hw Q q => ?_
    obtain ⟨a1, vs, rfl, st, da⟩ := hv.tupE
    refine ⟨a1, k, vs, rfl, hw.intE, sqt_up o.sub st, fun e => hne (List.eq_nil_of_length_eq_zero (by rw [← da.length, e]; rfl)), by omega, h2, by rw [da.length]; exact hz, fun p hp => ?_⟩
    have s := o.lay (o := .tup (List.replicate k.toNat vs).flatten) hp
    exact q _ _ _ _ _ s (.tup (.inl (.inl upd_same)) (DeAll.up s.gg _ _ (DeAll.flat da _))) zP) ha hb
/-! ### xs.index(x), xs a list of data -/
def idxD (x : PyData) : List PyData → Nat → Option Nat
  | [], _ => none
  | y :: r, i => if PyData.eqv y x then some i else idxD x r (i + 1)
theorem idxD_some {x : PyData} : ∀ {ys : List PyData} {i j : Nat}, idxD x ys i = some j → i ≤ j ∧ ∃ z, ys[j - i]? = some z ∧ PyData.eqv z x = true ∧ ∀ (m : Nat) (z' : PyData), m < j - i → ys[m]? = some z' → PyData.eqv z' x = false
  | [], i, j, h => by cases h
  | y :: r, i, j, h => by
    rw [idxD] at h
    by_cases e : PyData.eqv y x = true
    · rw [if_pos e] at h
      cases h
      exact ⟨Nat.le_refl _, y, by rw [Nat.sub_self]; rfl, e, fun m z' hm => absurd hm (by omega)⟩
    · rw [if_neg e] at h
      obtain ⟨h1, z, h2, h3, h4⟩ := idxD_some h
      refine ⟨by omega, z, ?_, h3, fun m z' hm ez => ?_⟩
      · rw [show j - i = (j - (i + 1)) + 1 by omega]
        exact h2
      · cases m with
        | zero =>
          cases ez
          simpa using e
        | succ m => exact h4 m z' (by omega) ez
def idxW (f g : W PyData) : W PyData := bnd f fun x => match x with
  | .list xs => bnd g fun y => match idxD y xs 0 with
    | some j => need (SeqAt.shaped (.list xs) = true ∧ SeqAt.shaped y = true) (Dw.ret (.int j))
    | none => bad
  | _ => bad
theorem rd_index (E : Ev X kk) (ha : RD M a ρ f) (hb : RD M b ρ g) (h3 : starEach [b] X.env = (false, eval b X.env) :: starEach [] X.env := by rfl)
    (h1 : attributeBase a "index" X.env (eval a X.env) = eval a X.env := by rfl)
    (h2 : ((((backTo cpos (starEach [b] X.env)).all fun x => !x.1) && (backToKw cpos (keywordEach [] X.env)).all fun x => x.1.isSome) && decide (([b].length + ([] : List Keyword).length + if ([] : List Keyword).isEmpty = true then 0 else 1) < 30)) = true := by rfl)
    (h4 : (apos.endLine == cpos.line) = true := by rfl) (h5 : ((backTo cpos (starEach [] X.env)).any fun x => x.1) = false := by rfl) : RD M (.Call (.Attribute a "index" apos) [b] [] cpos) ρ (idxW f g) := ⟨fun t P z =>
  jd_of (pe_bm PySem.F.plainAttrs_list PySem.F.slot_list_index PySem.F.type_list_index (mt_indexD E.u65) peT (pa_cons peT pa_nil h3) h1 h2 h4 h3 h5) fun σ G H S Q q => (ha.run t _ z) σ G H S _ fun G1 H1 v x t1 s1 d1 z1 => by
    cases x <;> first | exact z1.elim | skip
    rename_i xs
    obtain ⟨a1, ws, rfl, st, da⟩ := d1.lstE
    refine ⟨.inl ⟨rfl, ws, .inl (.inl ((S.step s1).ok.sub _ _ st))⟩, (hb.run t1 _ z1) σ G1 H1 (S.step s1) _ fun G2 H2 u y t2 s2 d2 z2 => ?_⟩
    have z3 : (match idxD y xs 0 with | some j => need (SeqAt.shaped (.list xs) = true ∧ SeqAt.shaped y = true) (Dw.ret (PyData.int j)) | none => bad) t2 P := z2
    cases e : idxD y xs 0 with
    | none => rw [e] at z3; exact z3.elim
    | some j =>
      rw [e] at z3
      obtain ⟨_, w, e1, e2, e3⟩ := idxD_some e
      have k2 := ((S.step s1).step s2).ok
      have d1' : De X.KK G2 (.ref a1) (.list xs) := De.up s2.gg _ _ (.lst st da)
      exact ⟨a1, u, y, xs, j, w, rfl, rfl, De.dpS z3.1.1 (De.up k2.sub _ _ d1'), De.dpS z3.1.2 (De.up k2.sub _ _ d2), z3.1.1, z3.1.2, e1, e2, e3, q G2 H2 _ _ t2 (s1.trans s2) (.int _) z3.2⟩⟩
/-! ### x, y = a list; x, y, z = a list -/
def twoL {α : Type} (k : PyData → PyData → W α) : PyData → W α
  | .list [x, y] => k x y
  | _ => bad
def threeL {α : Type} (k : PyData → PyData → PyData → W α) : PyData → W α
  | .list [x, y, z] => k x y z
  | _ => bad
theorem rg_threeL (i j l : Nat) {x : PyData} {k : PyData → PyData → PyData → W (Out τ σ)} (h : ∀ u v w, RS M rest (((ρ.set i (.d u)).set j (.d v)).set l (.d w)) emb emc (k u v w)) : RG (M := M) (gUnl X.KK 3 (gCons (gName i) (gCons (gName j) (gCons (gName l) gNil)))) ρ x rest emb emc (threeL k x) := ⟨fun t P D z n => by
  unfold threeL at z
  split at z
  · intro t0 G H σ v S d R r
    obtain ⟨a, vs, rfl, st, da⟩ := d.lstE
    cases da with
    | cons d1 da => cases da with
      | cons d2 da => cases da with
        | cons d3 da =>
          cases da
          exact ⟨a, _, rfl, .inl (.inl (S.ok.sub _ _ st)), rfl, _, _, rfl, _, _, rfl, _, _, rfl, rfl, r _ _ (((S.set d1).set d2).set d3) ((h _ _ _).run t P D z n)⟩
  · exact z.elim⟩
theorem rg_twoL (i j : Nat) {x : PyData} {k : PyData → PyData → W (Out τ σ)} (h : ∀ u v, RS M rest ((ρ.set i (.d u)).set j (.d v)) emb emc (k u v)) : RG (M := M) (gUnl X.KK 2 (gCons (gName i) (gCons (gName j) gNil))) ρ x rest emb emc (twoL k x) := ⟨fun t P D z n => by
  unfold twoL at z
  split at z
  · intro t0 G H σ v S d R r
    obtain ⟨a, vs, rfl, st, da⟩ := d.lstE
    cases da with
    | cons d1 da => cases da with
      | cons d2 da =>
        cases da
        exact ⟨a, _, rfl, .inl (.inl (S.ok.sub _ _ st)), rfl, _, _, rfl, _, _, rfl, rfl, r _ _ ((S.set d1).set d2) ((h _ _).run t P D z n)⟩
  · exact z.elim⟩
end
/-! ### defs with a star -/
/-- a promise for any number of arguments -/
def spV (K : KK) (Wo : WO) (S : List B → Rs → (B → Rs → Prop) → Prop) : Sp := fun vs H Q _ => ∃ (M : Md K Wo) (G : Hp) (bs : List B) (t : Rs) (P : B → Rs → Prop), Ok M t G H ∧ ArgAll M G vs bs ∧ bs.length ≤ 16777216 ∧ S bs t P ∧
  (∀ (G' H' : Hp) (v : V) (x : PyData) (t' : Rs), Stp M t' G H G' H' → De K G' v x → P (.d x) t' → Q v H') ∧
  (∀ (G' H' : Hp) (l : Addr) (ws : List V) (xs : List PyData) (t' : Rs), Stp M t' G H G' H' → H l = none → G' l = none → H' l = some (.lst ws) → DeAll K G' ws xs → P (.own xs) t' → Q (.ref l) H')
structure DefV (P : Program) (w : World) (K : PySem.W.Frag) (Wo : WO) (mg : Str → Option Value) (base : Heap) (k : Nat) (x : Str) (S : List B → Rs → (B → Rs → Prop) → Prop) : Prop where
  ex : ∃ f : Addr, FnR P w K mg base CX0 k f (spV (kkOf P w K) Wo S) ∧ mg x = some (.ref f) ∧ PySem.W.keepIn K (.ref f) = true
theorem DefV.mono {P : Program} {w : World} {K : PySem.W.Frag} {mg : Str → Option Value} {base : Heap} {Wo : WO} {k j : Nat} {x : Str} {S : List B → Rs → (B → Rs → Prop) → Prop} (D : DefV P w K Wo mg base k x S) (h : k ≤ j) : DefV P w K Wo mg base j x S := by
  obtain ⟨f, F, hm, kp⟩ := D.ex
  exact ⟨f, F.mono h, hm, kp⟩
/-- the star's tuple as data -/
def starArg (n : Nat) (m : List B → W B) : List B → W B := fun bs => bnd (match dsOf (bs.drop n) with
  | some xs => Dw.ret xs
  | none => bad) fun xs => need (bs.length ≤ 16777216 ∧ n ≤ bs.length) (m (bs.take n ++ [.d (.tuple xs)]))
section
variable {P : Program} {w : World} {K : PySem.W.Frag} {mg : Str → Option Value} {base : Heap}
theorem argAll_split {K : KK} {Wo : WO} {M : Md K Wo} {G : Hp} : ∀ (n : Nat) {vs : List V} {bs : List B}, ArgAll M G vs bs → ArgAll M G (vs.take n) (bs.take n) ∧ ArgAll M G (vs.drop n) (bs.drop n)
  | 0, _, _, h => ⟨.nil, h⟩
  | n + 1, _, _, .nil => ⟨.nil, .nil⟩
  | n + 1, _, _, .cons a h => ⟨.cons a (argAll_split n h).1, (argAll_split n h).2⟩
theorem argAll_app {K : KK} {Wo : WO} {M : Md K Wo} {G : Hp} : ∀ {vs ws : List V} {bs cs : List B}, ArgAll M G vs bs → ArgAll M G ws cs → ArgAll M G (vs ++ ws) (bs ++ cs)
  | _, _, _, _, .nil, h => h
  | _, _, _, _, .cons a r, h => .cons a (argAll_app r h)
theorem okV {Wo : WO} {x qual : Str} {st : Stmt} {f : Addr} {fd : FuncData} {N ps : List Str} {pv : Str} {k n : Nat} {m : List B → W B} (F : Fun K x qual st f fd) (Sc : FnScope N (ps ++ [pv]) (defScope st)) (hn : ps.length = n)
    (hb : ∀ (kV doc pm : Value) (an : Option Addr) (cdv ct : Value) (us rest : List Value), us.length = ps.length → bindArgs (PySem.W.fnOf x qual (defArgs st) (defBody st) (defScope st) .none kV doc pm an cdv ct) ⟨us ++ rest, []⟩ = (newTuple rest >>= fun t => pure (ps.zip us ++ [(pv, t)])))
    (body : ∀ (cdv : Value) (A : Around) (outer : List Env) (s : Shared) (H : Hp) (E : XK) (M : Md (kkOf P w K) Wo) (bs : List B) (t : Rs) (Pt : B → Rs → Prop), Room k (Xo P w K mg base N qual st f cdv A outer s H E).A → bs.length = n + 1 → m bs t Pt →
      JSs (X := Xo P w K mg base N qual st f cdv A outer s H E) M (defBody st) (bs ++ List.replicate (N.length - (n + 1)) .un) t { nx := fun _ t' => Pt (.d .none) t', rt := Pt }) : FnR P w K mg base CX0 (k + 1) f (spV (kkOf P w K) Wo (Sm (starArg n m))) := by
  obtain ⟨oc, od, kV, doc, pm, an, cdv, ct, osl, rfl, lk, hcd⟩ := F.ex
  have R := StX.fn_star (P := P) (w := w) (mg := mg) (base := base) (k := k) (sp := fun vs H Q _ => ∃ (M : Md (kkOf P w K) Wo) (G : Hp) (bs : List B) (t : Rs) (Pt : B → Rs → Prop), Ok M t G H ∧ ArgAll M G vs bs ∧ bs.length = n + 1 ∧ m bs t Pt ∧
      (∀ (G' H' : Hp) (v : V) (x : PyData) (t' : Rs), Stp M t' G H G' H' → De (kkOf P w K) G' v x → Pt (.d x) t' → Q v H') ∧
      (∀ (G' H' : Hp) (l : Addr) (ws : List V) (xs : List PyData) (t' : Rs), Stp M t' G H G' H' → H l = none → G' l = none → H' l = some (.lst ws) → DeAll (kkOf P w K) G' ws xs → Pt (.own xs) t' → Q (.ref l) H')) lk hcd Sc StX.cxUp_none (hb kV doc pm an cdv ct) fun A outer s H vs Q E hr ⟨M, G, bs, t, Pt, ok, a, hl, hS, q1, q2⟩ => ?_
  · refine FnR.imp R fun vs H Q E ⟨M, G, bs, t, Pt, ok, a, hlen, hS, q1, q2⟩ => ?_
    have hS' : (match dsOf (bs.drop n) with | some xs => Dw.ret xs | none => bad : W (List PyData)) t fun xs t1 => (bs.length ≤ 16777216 ∧ n ≤ bs.length) ∧ m (bs.take n ++ [.d (.tuple xs)]) t1 Pt := hS
    cases e : dsOf (bs.drop n) with
    | none => rw [e] at hS'; exact hS'.elim
    | some xs =>
      rw [e] at hS'
      obtain ⟨⟨_, hle⟩, hm⟩ := hS'
      have ex := dsOf_some e
      obtain ⟨a1, a2⟩ := argAll_split n a
      rw [ex] at a2
      have la := a.length
      refine ⟨vs.take n, vs.drop n, (List.take_append_drop n vs).symm, by rw [List.length_take, hn]; omega, line_of (by rw [List.length_drop]; omega), fun p hp => ?_⟩
      have s1 := ok.lay (o := .tup (vs.drop n)) hp
      have da := ArgAll.data a2
      refine ⟨M, _, bs.take n ++ [.d (.tuple xs)], t, Pt, ok.step s1, argAll_app (a1.up s1.gg) (.cons (.d (.tup (.inl (.inl upd_same)) (DeAll.up s1.gg _ _ da))) .nil), by rw [List.length_append, List.length_take]; simp; omega, hm, fun G' H' v y t' s' d p' => q1 G' H' v y t' (s1.trans s') d p', fun G' H' l ws ys t' s' h0 g e' d p' => q2 G' H' l ws ys t' (s1.trans s') (fresh_of s1 h0) g e' d p'⟩
  · refine ⟨_, (pssT (X := Xo P w K mg base N qual st f cdv A outer s H E)).nox, body cdv A outer s H E (M.at_ G H) bs t Pt hr hl hS (L2.start N vs) G H (sat_start ok a hl) _ ⟨fun σ' G' H' ρ' t' S' _ p => ?_, fun σ' G' H' ρ' t' _ _ p => p.elim, fun σ' G' H' ρ' t' _ _ p => p.elim, fun G' H' t' v x s' d p => ?_, fun G' H' t' l ws xs s' h0 g e d p => ?_⟩⟩
    · exact q1 G' H' .non .none t' ⟨S'.st.gg, S'.st.hh, S'.st.al, S'.st.fr, S'.st.sub, S'.st.rd, S'.st.tb⟩ .non p
    · exact q1 G' H' v x t' ⟨s'.gg, s'.hh, s'.al, s'.fr, s'.sub, s'.rd, s'.tb⟩ d p
    · exact q2 G' H' l ws xs t' ⟨s'.gg, s'.hh, s'.al, s'.fr, s'.sub, s'.rd, s'.tb⟩ h0 g e d p
end
section
variable {X : Cx} {Wo : WO} {M : Md X.KK Wo} {ρ : List B} {e : Expr} {es : List Expr} {p pos : Pos} {af : W (List B)} {kk : Nat}
theorem rd_callV {x : Str} {k : Nat} {m : List B → W B} (E : Ev X kk) (D : DefV X.prog X.w X.K Wo X.mg X.base k x (Sm m)) (ha : RA M (e :: es) ρ af) (hk : k ≤ kk := by decide) (hg : Gl X x := by rfl)
    (h2 : (x == ("__debug__" : Str)) = false := by decide) (h3 : starEach (e :: es) X.env = (false, eval e X.env) :: starEach es X.env := by rfl)
    (h4 : (backTo pos (starEach es X.env)).any (·.1) = false ∨ (backTo pos (starEach es X.env)).any (·.1) = true := by first | exact Or.inl rfl | exact Or.inr rfl) : RD M (.Call (.Name x p) (e :: es) [] pos) ρ (bnd (bnd af fun bs => need (bs.length ≤ 16777216) (m bs)) asD) := ⟨fun t P z => by
  obtain ⟨f, F, hm, kp⟩ := D.ex
  have pe : PE X (.Call (.Name x p) (e :: es) [] pos) (fun σ H Q => TaOf X (e :: es) σ H fun vs H1 => spV X.KK Wo (Sm m) vs H1 Q E0) := by
    rcases h4 with h4 | h4
    · refine ⟨fun pins s σ H Q I h => ?_⟩
      refine wpAny_Call_Name_kw (ld_glob I hg hm ?_ h2)
      refine PySem.W.callWith_K (h₀ := X.base) I.ok.mod.kin kp (thn (paT.run pos pins s σ H _ I h) fun us s1 ⟨vs, H1, I1, r, q⟩ => ⟨I1.kIn, ?_⟩) h3 h4
      exact wpAny_call (run_fnR (F.mono hk) E.room pass0 I1 r q)
    · exact StX.pe_callS2 (F.mono hk) E.room kp hg hm pass0 paT h2 h3 h4
  refine jd_of pe fun σ G H S Q q => (ha.run t _ z) σ G H S _ fun G1 H1 vs bs t1 s1 a1 z1 => ?_
  refine ⟨M, G1, bs, t1, _, (S.step s1).ok, a1, z1.1, z1.2, fun G2 H2 v y t2 s2 d2 py => ?_, fun G2 H2 l ws xs t2 s2 n g e a py => ?_⟩
  · exact q G2 H2 v y t2 (s1.trans s2) d2 py
  · exact q (upd G2 l (.lst ws)) H2 (.ref l) (.list xs) t2 (s1.trans (s2.freeze n g e)) (.lst upd_same (DeAll.up (fun b u z => by
      rw [upd_ne (ne_of_none z g)]
      exact z) xs ws a)) py⟩
end
end Dz
end
section
set_option maxRecDepth 100000
set_option maxHeartbeats 4000000
namespace Dz
open PySem PySem.Spec PyProof.Rows L2 Dl Dw
/-! ### dicts with text keys, written once, held by a slot -/
def kvsOf (ks : List Str) (vs : List V) : List (Key × V) := (ks.zip vs).map fun p => (Sum.inr p.1, p.2)
theorem merge_app : ∀ (more acc : List (Key × V)), (acc.map (·.1) ++ more.map (·.1)).Nodup → mergeK acc more = acc ++ more
  | [], acc, _ => by rw [List.append_nil]; rfl
  | (k, v) :: r, acc, h => by
    have hk : (acc.any fun kv => decide (kv.1 = k)) = false := by
      rw [List.any_eq_false]
      intro x hx e
      rw [List.nodup_append] at h
      exact h.2.2 x.1 (List.mem_map.mpr ⟨x, hx, rfl⟩) k (by simp) (of_decide_eq_true e)
    have e1 : putK acc k v = acc ++ [(k, v)] := by
      unfold putK
      rw [hk]
      rfl
    show mergeK (putK acc k v) r = _
    rw [e1, merge_app r (acc ++ [(k, v)]) (by simpa using h), List.append_assoc]
    rfl
theorem keys_kvs : ∀ {ks : List Str} {vs : List V}, ks.length = vs.length → (kvsOf ks vs).map (·.1) = ks.map Sum.inr
  | [], [], _ => rfl
  | k :: ks, v :: vs, h => by
    have := keys_kvs (ks := ks) (vs := vs) (by simpa using h)
    show Sum.inr k :: (kvsOf ks vs).map (·.1) = _
    rw [this]
    rfl
theorem merge_kvs {ks : List Str} {vs : List V} (h : ks.length = vs.length) (nd : ks.Nodup) : mergeK [] (kvsOf ks vs) = kvsOf ks vs := by
  rw [merge_app _ _ (by
    rw [List.map_nil, List.nil_append, keys_kvs h]
    exact List.Pairwise.map _ (fun a b hab e => hab (Sum.inr.inj e)) nd)]
  rfl
def getP : List Str → List PyData → Str → Option PyData
  | k :: ks, d :: ds, s => if k = s then some d else getP ks ds s
  | _, _, _ => none
theorem val_kvs {K : KK} {G : Hp} : ∀ {ks : List Str} {vs : List V} {ds : List PyData} {s : Str} {d : PyData}, DeAll K G vs ds → getP ks ds s = some d → ∃ v, valV (kvsOf ks vs) (Sum.inr s) = some v ∧ De K G v d
  | k :: ks, _, _, s, d, .cons (v := v) (vs := vs) h r, e => by
    rw [getP] at e
    by_cases hk : k = s
    · rw [if_pos hk] at e
      cases e
      exact ⟨v, valV_pos (by rw [hk]), h⟩
    · rw [if_neg hk] at e
      obtain ⟨u, e1, e2⟩ := val_kvs (ks := ks) r e
      exact ⟨u, by
        show valV ((Sum.inr k, v) :: kvsOf ks vs) _ = _
        rw [valV_neg (fun z => hk (Sum.inr.inj z))]
        exact e1, e2⟩
  | [], _, _, _, _, _, e => by cases e
  | _ :: _, _, _, _, _, .nil, e => by cases e
/-- a dict with these keys and values, locked -/
def dictIm (K : KK) (ks : List Str) (ds : List PyData) : Im where
  R := fun _ G o => ∃ od vs, o = .frz od (.dK (kvsOf ks vs)) ∧ ks.length = vs.length ∧ DeAll K G vs ds
  up := fun e ⟨od, vs, h1, h2, h3⟩ => ⟨od, vs, h1, h2, DeAll.up e _ _ h3⟩
/-- the pairs of a display: keys written, values data -/
structure RP {X : Cx} {Wo : WO} (M : Md X.KK Wo) (pos : Pos) (ks : List Str) (keys : List (Option Expr)) (values : List Expr) (ρ : List B) (f : W (List PyData)) : Prop where
  ex : ∃ trs, PPs X pos keys values trs ∧ ∀ (t : Rs) (P : List PyData → Rs → Prop), f t P → ∀ (σ : L2.St) (G H : Hp), Sat M t G H σ ρ → ∀ Q : List (V × V) → Hp → Prop,
    (∀ (G' H' : Hp) (vs : List V) (xs : List PyData) (t' : Rs), Stp M t' G H G' H' → DeAll X.KK G' vs xs → ks.length = vs.length → P xs t' → Q ((ks.zip vs).map fun p => (.str p.1, p.2)) H') → tPairs trs σ H Q
  len : keys.length = ks.length
  len2 : values.length = ks.length
  all : keys.all (·.isSome) = true
section
variable {X : Cx} {Wo : WO} {M : Md X.KK Wo} {ρ : List B} {a b e : Expr} {es : List Expr} {pos p cpos : Pos} {f g : W PyData} {lf : W (List PyData)} {kk : Nat} {τ σ : Type} {emb : τ → List B} {emc : σ → List B} {rest : List Stmt} {keys : List (Option Expr)} {ks : List Str}
theorem rp_nil : RP M pos [] [] [] ρ (Dw.ret []) := ⟨⟨[], pps_nil, fun t P z σ G H S Q q => q G H [] [] t S.ok.refl .nil rfl z⟩, rfl, rfl, rfl⟩
theorem rp_cons {k : Str} {j : Nat} (he : RD M e ρ f) (hr : RP M pos ks keys es ρ lf) : RP M pos (k :: ks) (some (.Constant (.str k) j p) :: keys) (e :: es) ρ (consA f lf) := by
  obtain ⟨trs, h1, h2⟩ := hr.ex
  refine ⟨⟨(tC (.str k), TeOf X e) :: trs, pps_cons pe_str peT h1, fun t P z σ G H S Q q => ?_⟩, by rw [List.length_cons, List.length_cons, hr.len], by rw [List.length_cons, List.length_cons, hr.len2], ?_⟩
  · exact (he.run t _ z) σ G H S _ fun G1 H1 v x t1 s1 d1 z1 => h2 t1 _ z1 σ G1 H1 (S.step s1) _ fun G2 H2 vs xs t2 s2 d2 hl z2 => q G2 H2 (v :: vs) (x :: xs) t2 (s1.trans s2) (.cons (De.up s2.gg _ _ d1) d2) (by rw [List.length_cons, List.length_cons, hl]) z2
  · rw [List.all_cons, hr.all]
    rfl
/-- an expression that gives a new object, which stays as it is -/
theorem _root_.Dl.Ok.lay' {K : KK} {Wo : WO} {M : Md K Wo} {t : Rs} {G H : Hp} {p : Addr} {o : HO} (k : Ok M t G H) (g : G p = none) (n : p ≠ M.r) (tb : LamX.Tabs Wo.T (upd H p o) ∧ ∀ a ps, upd G p o a ≠ some (.tbl ps)) : Ok M t (upd G p o) (upd H p o) where
  sub := fun c u e => by
    by_cases hc : c = p
    · subst hc
      rw [upd_same] at e ⊢
      exact e
    · rw [upd_ne hc] at e ⊢
      exact k.sub c u e
  gr := by
    rw [upd_ne (Ne.symm n)]
    exact k.gr
  rd := by
    obtain ⟨o', q, w⟩ := k.rd
    refine ⟨o', by rw [upd_ne (Ne.symm n)]; exact q, M.up (fun c u e => ?_) w⟩
    rw [upd_ne (ne_of_none e g)]
    exact e
  tb := tb
structure RM (e : Expr) (ρ : List B) {α : Type} (im : α → Im) (f : W α) : Prop where
  run : ∀ (t : Rs) (P : α → Rs → Prop), f t P → ∀ (σ : L2.St) (G H : Hp), Sat M t G H σ ρ → ∀ Q : VK, (∀ (G' H' : Hp) (l : Addr) (o : HO) (x : α) (t' : Rs), Stp M t' G H G' H' → G' l = some o → (im x).R l G' o → P x t' → Q (.ref l) H') → TeOf X e σ H Q
theorem rm_dict (nd : ks.Nodup) (h0 : ks ≠ []) (few : ks.length ≤ 15) (h : RP M pos ks keys es ρ lf) : RM (M := M) (.Dict keys es pos) ρ (dictIm X.KK ks) lf := ⟨fun t P z σ G H S Q q => by
  obtain ⟨trs, h1, h2⟩ := h.ex
  have pe : PE X (.Dict keys es pos) (fun σ H Q => tDisp trs σ H fun v H1 => ∃ p u, v = .ref p ∧ H1 p = some u ∧ Mut (some u) ∧ ∀ od, Q v (upd H1 p (.frz od u))) := ⟨fun pins s σ H Q I w => by
    refine thn ((pe_disp h1 h.all (by rw [h.len, h.len2]) (fun z => h0 (List.eq_nil_of_length_eq_zero (by rw [← h.len, z]; rfl))) (by rw [h.len]; exact few)).run pins s σ H _ I w) fun v s1 ⟨x, H1, I1, r1, p, u, ev, hu, mu, q1⟩ => ?_
    obtain ⟨od, I2⟩ := I1.lock hu mu
    exact ⟨x, _, I2, r1, q1 od⟩⟩
  refine TeOf.of pe fun p hp => ?_
  have k0 := S.ok
  have s0 := k0.layO (o := .dK []) hp
  have gp : G p = none := none_of k0 hp
  have hpr : p ≠ M.r := S.ne_r hp
  refine h2 t P z σ G _ (S.step s0) _ fun G1 H1 vs xs t1 s1 d1 hl zP => ⟨s1.hh p _ hpr (fun _ z => by cases z) upd_same, kvsOf ks vs, ?_, ?_, p, .dK (kvsOf ks vs), rfl, ?_, trivial, fun od => ?_⟩
  · unfold kvsOf
    rw [List.map_map]
    rfl
  · unfold kvsOf
    rw [List.length_map, List.length_zip, hl, Nat.min_self, ← hl]
    exact few
  · rw [merge_kvs hl nd]
    exact upd_same
  · have s01 := s0.trans s1
    have g1 : G1 p = none := s1.fr p (by rw [upd_same]; simp) gp
    have e2 : upd (upd H1 p (.dK (mergeK [] (kvsOf ks vs)))) p (.frz od (.dK (kvsOf ks vs))) = upd H1 p (.frz od (.dK (kvsOf ks vs))) := by
      funext c
      by_cases hc : c = p
      · subst hc
        rw [upd_same, upd_same]
      · rw [upd_ne hc, upd_ne hc, upd_ne hc]
    rw [e2]
    have lay := (k0.step s01).lay' (p := p) (o := .frz od (.dK (kvsOf ks vs))) g1 hpr ⟨tabs_upd s01.tb.1 (.inr (.inr (.inr ⟨_, s1.hh p _ hpr (fun _ z => by cases z) upd_same⟩))), nt_upd s01.tb.2 (fun _ z => by cases z)⟩
    have up1 : Same G1 (upd G1 p (.frz od (.dK (kvsOf ks vs)))) := fun c o ec => by
      rw [upd_ne (ne_of_none ec g1)]
      exact ec
    refine q _ _ p _ xs t1 ⟨s01.gg.trans up1, fun c o nc nt ec => ?_, fun c ec => ?_, fun c ec gc => ?_, lay.sub, lay.rd, lay.tb⟩ upd_same ⟨od, vs, rfl, hl, DeAll.up up1 _ _ d1⟩ zP
    · rw [upd_ne (ne_of_none ec hp)]
      exact s01.hh c o nc nt ec
    · by_cases hc : c = p
      · rw [hc, upd_same]; simp
      · rw [upd_ne hc]; exact s01.al c ec
    · have hc : c ≠ p := fun z => ec (by rw [z]; exact hp)
      rw [upd_ne hc]
      exact s01.fr c ec gc⟩
/-- x = a new object -/
theorem rs_setM (i : Nat) {x : Str} {pos' : Pos} {α : Type} {im : α → Im} {mf : W α} {k : α → W (Out τ σ)} (hN : X.N.Nodup) (ha : RM (M := M) e ρ im mf) (hk : ∀ y, RS M rest (ρ.set i (.im (im y))) emb emc (k y)) (hi : X.N[i]? = some x := by rfl) (hx : L2.Loc X.env.scope x := by first | exact Or.inl rfl | exact Or.inr rfl) (hs : swapsWith e (some (.Name x pos')) pos.line X.env = pure false := by rfl)
    (hf : X.fn x = true ∨ X.env.scope.names.lookup x = some .local := by first | exact .inl rfl | exact .inr rfl) : RS M (.Assign [.Name x pos'] e pos :: rest) ρ emb emc (bnd mf k) := ⟨fun t P D z w => jss_cons (js_of (ps_set hN hi hx peT hs hf) fun σ G H S E F =>
  ha.run t _ z σ G H S _ fun G1 H1 l o y t1 s1 h r z1 => (F.mono s1.gg).nx _ G1 H1 _ t1 ((S.step s1).setI h r) (Same.refl _) ((hk y).run t1 P D z1 w))⟩
def dgetW (ks : List Str) (ds : List PyData) (f : W PyData) : W PyData := bnd f fun y => match y with
  | .str s => match getP ks ds s with
    | some d => Dw.ret d
    | none => bad
  | _ => bad
/-- x[e] of such a dict -/
theorem rd_dgetI (E : Ev X kk) (i : Nat) {x : Str} {ds : List PyData} (hb : RD M b ρ f) (hr : ρ[i]? = some (.im (dictIm X.KK ks ds)) := by rfl) (hs : NoSl b := by intro _ _; rfl) (hN : X.N[i]? = some x := by rfl) (hv : Vis X.env.scope x := by first | exact Or.inl rfl | exact Or.inr (Or.inl rfl) | exact Or.inr (Or.inr rfl)) (hd : (x == ("__debug__" : Str)) = false := by decide) (hcd : (x == ("__classdict__" : Str)) = false := by decide) :
    RD M (.Subscript (.Name x p) b pos) ρ (dgetW ks ds f) := ⟨fun t P z => jd_of (pe_dget (by have := E.room.un; omega) (pv i hN hv hd hcd) peT hs) fun σ G H S Q q => by
  obtain ⟨l, o, e1, h, r⟩ := S.at_ i _ hr
  refine ⟨.ref l, e1, (hb.run t _ z) σ G H S _ fun G1 H1 v y t1 s1 d1 z1 => ?_⟩
  cases y <;> first | exact z1.elim | skip
  rename_i s
  have z2 : (match getP ks ds s with | some d => Dw.ret d | none => bad) t1 P := z1
  cases e : getP ks ds s with
  | none => rw [e] at z2; exact z2.elim
  | some d =>
    rw [e] at z2
    obtain ⟨od, vs, rfl, hl, da⟩ := r
    obtain ⟨u, eu, du⟩ := val_kvs (DeAll.up s1.gg _ _ da) e
    exact ⟨l, u, rfl, .inl ⟨_, Sum.inr s, .inr ⟨od, (S.step s1).ok.sub _ _ (s1.gg _ _ h)⟩, d1.strE, eu.symm⟩, q G1 H1 u d t1 s1 du z2⟩⟩
/-- for k in x, such a dict -/
theorem ri_dkeys (i : Nat) {x : Str} {tg : Expr} {ds : List PyData} (hr : ρ[i]? = some (.im (dictIm X.KK ks ds)) := by rfl) (hN : X.N[i]? = some x := by rfl) (hv : Vis X.env.scope x := by first | exact Or.inl rfl | exact Or.inr (Or.inl rfl) | exact Or.inr (Or.inr rfl)) (hd : (x == ("__debug__" : Str)) = false := by decide) (hcd : (x == ("__classdict__" : Str)) = false := by decide) :
    RI M tg (.Name x p) ρ (Dw.ret (ks.map PyData.str)) := ⟨fun t P z σ G H S R r => TiOf.of (pi_keys (pv i hN hv hd hcd)) (by
  obtain ⟨l, o, e1, h, od, vs, rfl, hl, da⟩ := S.at_ i _ hr
  have len : (kvsOf ks vs).length = ks.length := by unfold kvsOf; rw [List.length_map, List.length_zip, ← hl, Nat.min_self]
  have wk : Wk M G (Itk l od (kvsOf ks vs)) (ks.map PyData.str) := by
    refine ⟨fun j t G' H' e k hj => ⟨k.sub _ _ (e _ _ h), by rw [len]; simpa using hj⟩, fun j t G' H' e k hj => ⟨k.sub _ _ (e _ _ h), by rw [len]; simpa using hj⟩, fun j t G' H' x H2 e k y hj => ?_⟩
    obtain ⟨rfl, k2, v, e2, rfl⟩ := y
    have hj2 : j < ks.length := by simpa using hj
    have hj3 : j < vs.length := by omega
    have e3 : (kvsOf ks vs)[j]? = some (Sum.inr ks[j], vs[j]) := by
      unfold kvsOf
      rw [List.getElem?_map, (List.getElem?_zip_eq_some (z := (ks[j], vs[j]))).mpr ⟨List.getElem?_eq_getElem hj2, List.getElem?_eq_getElem hj3⟩]
      rfl
    rw [e3] at e2
    cases e2
    exact ⟨G', .str ks[j], k.refl, by simp [hj2], .str _⟩
  exact ⟨.ref l, e1, l, od, rfl, .inl ⟨_, S.ok.sub _ _ h, r G H _ _ t S.ok.refl wk z⟩⟩)⟩
end
end Dz
end
section
set_option maxRecDepth 100000
set_option maxHeartbeats 4000000
namespace Dw
open PySem PySem.Spec PyProof.Rows L2 Dl Dz
def arg0 (k : W B) : List B → W B
  | [] => k
  | _ => bad
theorem arg0_of {k : W B} {bs : List B} {t : Rs} {Q : B → Rs → Prop} (h : arg0 k bs t Q) : bs = [] ∧ k t Q := by
  unfold arg0 at h
  split at h <;> first | exact ⟨rfl, h⟩ | exact h.elim
section
variable {X : Cx} {Wo : WO} {M : Md X.KK Wo} {ρ : List B} {e a b : Expr} {pos cpos apos p q : Pos} {x : Str} {f g : W PyData} {kk : Nat} {τ σ : Type} {emb : τ → List B} {emc : σ → List B} {rest : List Stmt} {xs : List PyData}
theorem rs_app {k : PyData → W (Out τ σ)} (i : Nat) (ha : RD M e ρ f) (hk : ∀ y, RS M rest (ρ.set i (.own (xs ++ [y]))) emb emc (k y)) (hr : ρ[i]? = some (.own xs) := by rfl)
    (hN : X.N[i]? = some x := by rfl) (hv : Vis X.env.scope x := by first | exact Or.inl rfl | exact Or.inr (Or.inl rfl) | exact Or.inr (Or.inr rfl)) (hd : (x == ("__debug__" : Str)) = false := by decide) (hcd : (x == ("__classdict__" : Str)) = false := by decide)
    (hs : swapsWith (.Call (.Attribute (.Name x p) "append" apos) [e] [] cpos) none pos.line X.env = pure false := by rfl) (h3 : starEach [e] X.env = (false, eval e X.env) :: starEach [] X.env := by rfl)
    (h1 : attributeBase (.Name x p) "append" X.env (eval (.Name x p) X.env) = eval (.Name x p) X.env := by rfl)
    (h2 : ((((backTo cpos (starEach [e] X.env)).all fun x => !x.1) && (backToKw cpos (keywordEach [] X.env)).all fun x => x.1.isSome) && decide (([e].length + ([] : List Keyword).length + if ([] : List Keyword).isEmpty = true then 0 else 1) < 30)) = true := by rfl)
    (h4 : (apos.endLine == cpos.line) = true := by rfl) (h5 : ((backTo cpos (starEach [] X.env)).any fun x => x.1) = false := by rfl) : RS M (.Expr (.Call (.Attribute (.Name x p) "append" apos) [e] [] cpos) pos :: rest) ρ emb emc (bnd f fun y => need (xs.length < 16777216) (k y)) := ⟨fun t P D z n =>
  jss_cons (js_append i hr ((ha.run t _ z).imp fun y t1 z1 => ⟨z1.1, (hk y).run t1 P D z1.2 n⟩) hN hv hd hcd hs h3 h1 h2 h4 h5)⟩
end
section
variable {X : Cx} {Wo : WO} {M : Md X.KK Wo} {ρ : List B} {elt cond tg iter a b e : Expr} {pos spos py p : Pos} {y : Str} {scope : Scope} {own : List (Str × Nat)} {gt : TG} {lf : W (List PyData)} {kk : Nat} {τ σ : Type} {emb : τ → List B} {emc : σ → List B} {rest : List Stmt}
/-- y = [elt for ..], where the list goes to the name ahead of the block's end -/
theorem rs_setC (i : Nat) {fe : PyData → W PyData} {k : List PyData → W (Out τ σ)} (E : Ev X kk) (hN : X.N.Nodup) (ok : BlkOk X.N X.env.scope scope own) (hw : Wipes gt (own.map (·.2)))
    (hg : ∀ (s : Shared) (H : Hp) (C : Addr) (cl : List (Str × Addr)) (fp : List Addr), PG (X.blk s H scope (compEnvC scope cl C X.env) fp) tg gt) (hi : RI M tg iter ρ lf) (he : ∀ x, RGe M gt (wipeB ρ (own.map (·.2))) x scope elt (fe x))
    (hk : ∀ ys, RS M rest (ρ.set i (.own ys)) emb emc (k ys))
    (hk0 : X.env.scope.kind = .function := by rfl) (hyl : X.env.scope.names.lookup y = some .local := by rfl) (hl : (py.line == pos.line) = true := by rfl) (hy0 : (scope.names.any fun (n, k) => n == y && (k == .local || k == .cell)) = false := by rfl)
    (hy : X.N[i]? = some y := by rfl) (hs : ∀ x, foldedSetIterable iter X.env x = pure x := by intro _; rfl) : RS M (.Assign [.Name y py] (.ListComp elt [⟨tg, iter, [], 0⟩] scope pos) spos :: rest) ρ emb emc (bnd (compW lf fe) k) := ⟨fun t P D z n =>
  jss_cons (js_comp i E.calm hN ok hw hg (sw_true hk0 hyl hl hy0) ((hi.run t _ z).imp' fun xs t1 ⟨hlen, z1⟩ => by
  refine ⟨fun i acc t' => acc.length = i ∧ mapW fe (xs.drop i) t' fun r t2 => k (acc ++ r) t2 P, ⟨rfl, z1⟩, fun i x acc t' ex ⟨hl, w⟩ => ?_, fun acc t' ⟨hl, w⟩ => ?_⟩
  · obtain ⟨hlt, e⟩ := List.getElem?_eq_some_iff.mp ex
    have hx : xs.drop i = x :: xs.drop (i + 1) := by rw [List.drop_eq_getElem_cons hlt, e]
    rw [hx] at w
    refine DG.imp ((he x).run t' _ w) fun r h => jdb_imp h fun y t3 w3 => ⟨by omega, by rw [List.length_append, hl]; rfl, ?_⟩
    have e2 : (fun (r : List PyData) (t2 : Rs) => k (acc ++ [y] ++ r) t2 P) = fun r t2 => k (acc ++ y :: r) t2 P := by
      funext r t2
      rw [List.append_assoc]
      rfl
    rw [e2]
    exact w3
  · rw [List.drop_length] at w
    have w2 : k (acc ++ []) t' P := w
    rw [List.append_nil] at w2
    exact (hk acc).run t' P D w2 n) hy hyl hs)⟩
theorem rs_setCO (i : Nat) {fe : PyData → W (Option PyData)} {k : List PyData → W (Out τ σ)} (E : Ev X kk) (hN : X.N.Nodup) (ok : BlkOk X.N X.env.scope scope own) (hw : Wipes gt (own.map (·.2)))
    (hg : ∀ (s : Shared) (H : Hp) (C : Addr) (cl : List (Str × Addr)) (fp : List Addr), PG (X.blk s H scope (compEnvC scope cl C X.env) fp) tg gt) (hi : RI M tg iter ρ lf) (he : ∀ x, RGi M gt (wipeB ρ (own.map (·.2))) x scope cond elt (fe x))
    (hk : ∀ ys, RS M rest (ρ.set i (.own ys)) emb emc (k ys))
    (hk0 : X.env.scope.kind = .function := by rfl) (hyl : X.env.scope.names.lookup y = some .local := by rfl) (hl : (py.line == pos.line) = true := by rfl) (hy0 : (scope.names.any fun (n, k) => n == y && (k == .local || k == .cell)) = false := by rfl)
    (hy : X.N[i]? = some y := by rfl) (hs : ∀ x, foldedSetIterable iter X.env x = pure x := by intro _; rfl) : RS M (.Assign [.Name y py] (.ListComp elt [⟨tg, iter, [cond], 0⟩] scope pos) spos :: rest) ρ emb emc (bnd (compO lf fe) k) := ⟨fun t P D z n =>
  jss_cons (js_compT i E.calm hN ok hw hg (sw_true hk0 hyl hl hy0) ((hi.run t _ z).imp' fun xs t1 ⟨hlen, z1⟩ => by
  refine ⟨fun i acc t' => acc.length ≤ i ∧ filO fe (xs.drop i) t' fun r t2 => k (acc ++ r) t2 P, ⟨Nat.le_refl _, z1⟩, fun i x acc t' ex ⟨hl, w⟩ => ?_, fun acc t' ⟨hl, w⟩ => ?_⟩
  · obtain ⟨hlt, e⟩ := List.getElem?_eq_some_iff.mp ex
    have hx : xs.drop i = x :: xs.drop (i + 1) := by rw [List.drop_eq_getElem_cons hlt, e]
    rw [hx] at w
    refine DG.imp ((he x).run t' _ w) fun r h => fun s H C cl fp => (h s H C cl fp).imp fun b t2 ⟨h1, h2⟩ => ⟨fun eb => jdb_imp (h1 eb) fun y t3 w3 => ⟨by omega, by rw [List.length_append]; simp only [List.length_cons, List.length_nil]; omega, ?_⟩, fun eb => ⟨by omega, h2 eb⟩⟩
    have e2 : (fun (r : List PyData) (t2 : Rs) => k (acc ++ [y] ++ r) t2 P) = fun r t2 => k (acc ++ y :: r) t2 P := by
      funext r t2
      rw [List.append_assoc]
      rfl
    rw [e2]
    exact w3
  · rw [List.drop_length] at w
    have w2 : k (acc ++ []) t' P := w
    rw [List.append_nil] at w2
    exact (hk acc).run t' P D w2 n) hy hyl hs)⟩
theorem rd_call0 {x : Str} {k : Nat} {m : List B → W B} (E : Ev X kk) (D : Def X.prog X.w X.K Wo X.mg X.base k x 0 (Sm m)) (hk : k ≤ kk := by decide) (hg : Gl X x := by rfl) (h2 : (x == ("__debug__" : Str)) = false := by decide) :
    RD M (.Call (.Name x p) [] [] pos) ρ (bnd (callN 0 m (ret [])) asD) := ⟨fun t P z => by
  obtain ⟨fa, fd, ps, F, hm, kp, hb⟩ := D.ex
  refine jd_of (pe_call0 F (E.room.mono hk) hg hm kp hb .nil pass0 h2) fun σ G H S Q q => ?_
  refine ⟨M, G, [], t, _, S.ok, .nil, rfl, z.2, fun G2 H2 v z t2 s2 d2 py => ?_, fun G2 H2 l ws xs t2 s2 n g e a py => ?_⟩
  · exact q G2 H2 v z t2 s2 d2 py
  · exact q (upd G2 l (.lst ws)) H2 (.ref l) (.list xs) t2 (s2.freeze n g e) (.lst upd_same (DeAll.up (fun b u z => by
      rw [upd_ne (ne_of_none z g)]
      exact z) xs ws a)) py⟩
end
def neS (f g : W PyData) : W Bool := bnd f fun x => match x with
  | .str y => bnd g fun z => match z with
    | .str u => ret (!decide (y = u))
    | _ => bad
  | _ => bad
section
variable {X : Cx} {Wo : WO} {M : Md X.KK Wo} {ρ : List B} {a b : Expr} {pos : Pos} {f g : W PyData}
theorem rt_neS' (ha : RD M a ρ f) (hb : RD M b ρ g) : RT M (.Compare a [.NotEq] [b] pos) ρ (neS f g) := ⟨fun t P z => jt_neS ((ha.run t _ z).imp fun x t1 z1 => by
  cases x <;> first | exact z1.elim | skip
  refine ⟨_, rfl, (hb.run t1 _ z1).imp fun y t2 z2 => ?_⟩
  cases y <;> first | exact z2.elim | skip
  exact ⟨_, rfl, z2⟩)⟩
end
/-! ### mirrors, applied -/
section
variable {α β γ τ σ : Type} {t : Rs}
theorem bnd_ap (m : W α) (k : α → W β) (P : β → Rs → Prop) : bnd m k t P = m t fun a t1 => k a t1 P := id rfl
theorem ret_ap (a : α) (P : α → Rs → Prop) : ret a t P = P a t := id rfl
theorem need_ap (c : Prop) (m : W α) (P : α → Rs → Prop) : need c m t P = (c ∧ m t P) := id rfl
theorem op1_ap (o : PyData → W PyData) (f : W PyData) (P : PyData → Rs → Prop) : op1 o f t P = f t fun x t1 => o x t1 P := id rfl
theorem op2_ap (o : PyData → PyData → W PyData) (f g : W PyData) (P : PyData → Rs → Prop) : op2 o f g t P = f t fun x t1 => g t1 fun y t2 => o x y t2 P := id rfl
theorem dA_ap (f : W PyData) (g : W (List B)) (P : List B → Rs → Prop) : dA f g t P = f t fun x t1 => g t1 fun bs t2 => P (.d x :: bs) t2 := id rfl
theorem rdA_ap (g : W (List B)) (P : List B → Rs → Prop) : rdA g t P = g t fun bs t1 => P (.rd :: bs) t1 := id rfl
theorem callN_ap (n : Nat) (m : List B → W B) (f : W (List B)) (P : B → Rs → Prop) : callN n m f t P = f t fun bs t1 => bs.length = n ∧ m bs t1 P := id rfl
theorem asD_d (x : PyData) (P : PyData → Rs → Prop) : asD (.d x) t P = P x t := id rfl
theorem asD_own (xs : List PyData) (P : PyData → Rs → Prop) : asD (.own xs) t P = P (.list xs) t := id rfl
theorem asO_own (xs : List PyData) (P : List PyData → Rs → Prop) : asO (.own xs) t P = P xs t := id rfl
theorem asB_b (b : Bool) (P : Bool → Rs → Prop) : asB (.bool b) t P = P b t := id rfl
theorem asT_ap (x : PyData) (P : Bool → Rs → Prop) : asT x t P = (strOk x ∧ P (truD x) t) := id rfl
theorem froz_ap (f : W (List PyData)) (P : PyData → Rs → Prop) : froz f t P = f t fun xs t1 => P (.list xs) t1 := id rfl
theorem disp_ap (af : W (List B)) (k : List PyData → W α) (P : α → Rs → Prop) : disp af k t P = af t fun bs t1 => (match dsOf bs with | some xs => need (xs.length ≤ 16777216) (k xs) | none => bad) t1 P := id rfl
theorem ifW_ap (c : W Bool) (f g : W α) (P : α → Rs → Prop) : ifW c f g t P = c t fun b t1 => (bif b then f else g) t1 P := id rfl
theorem andT_ap (f g : W Bool) (P : Bool → Rs → Prop) : andT f g t P = f t fun b t1 => (bif b then g else ret false) t1 P := id rfl
theorem orT_ap (f g : W Bool) (P : Bool → Rs → Prop) : orT f g t P = f t fun b t1 => (bif b then ret true else g) t1 P := id rfl
theorem notT_ap (f : W Bool) (P : Bool → Rs → Prop) : notT f t P = f t fun b t1 => P (!b) t1 := id rfl
theorem andW_b (f g : W PyData) (P : PyData → Rs → Prop) : andW f g t P = f t fun x t1 => (match x with | .bool b => bif b then g else ret (PyData.bool false) | _ => bad) t1 P := id rfl
theorem orW_b (f g : W PyData) (P : PyData → Rs → Prop) : orW f g t P = f t fun x t1 => (match x with | .bool b => bif b then ret (PyData.bool true) else g | _ => bad) t1 P := id rfl
theorem thn_ap (m : W (Sum α B)) (k : α → W (Out τ σ)) (P : Out τ σ → Rs → Prop) : thn m k t P = m t fun o t1 => (match o with | .inl s => k s | .inr b => ret (.rt b)) t1 P := id rfl
theorem joi_ap (m : W (Out α σ)) (k : α → W (Out τ σ)) (P : Out τ σ → Rs → Prop) : joi m k t P = m t fun o t1 => (match o with | .nx s => k s | .ct s => ret (.ct s) | .bk s => ret (.bk s) | .rt b => ret (.rt b)) t1 P := id rfl
theorem upO_ap (m : W (Out Empty σ)) : (upO m : W (Out τ σ)) = joi m fun s => nomatch s := id rfl
theorem fnW_ap (m : W (Out Empty Empty)) (P : B → Rs → Prop) : fnW m t P = m t fun o t1 => (match o with | .rt b => ret b | .nx s => nomatch s | .ct s => nomatch s | .bk s => nomatch s) t1 P := id rfl
theorem fnU_ap (m : W (Out Unit Empty)) (P : B → Rs → Prop) : fnU m t P = m t fun o t1 => (match o with | .rt b => ret b | .nx _ => ret (.d .none) | .ct s => nomatch s | .bk s => nomatch s) t1 P := id rfl
theorem compW_ap (it : W (List PyData)) (f : PyData → W PyData) (P : List PyData → Rs → Prop) : compW it f t P = it t fun xs t1 => xs.length ≤ 16777216 ∧ mapW f xs t1 P := id rfl
theorem compO_ap (it : W (List PyData)) (f : PyData → W (Option PyData)) (P : List PyData → Rs → Prop) : compO it f t P = it t fun xs t1 => xs.length ≤ 16777216 ∧ filO f xs t1 P := id rfl
theorem optW_ap (c : W Bool) (m : W PyData) (P : Option PyData → Rs → Prop) : optW c m t P = c t fun b t1 => (bif b then bnd m fun y => ret (some y) else ret none) t1 P := id rfl
theorem itL_ap (f : W PyData) (P : List PyData → Rs → Prop) : itL f t P = f t fun x t1 => (match x with | .list xs => ret xs | _ => bad) t1 P := id rfl
theorem itT_ap (f : W PyData) (P : List PyData → Rs → Prop) : itT f t P = f t fun x t1 => (match x with | .tuple xs => ret xs | _ => bad) t1 P := id rfl
theorem itS_ap (f : W PyData) (P : List PyData → Rs → Prop) : itS f t P = f t fun x t1 => (match x with | .str z => ret (sgnD z) | _ => bad) t1 P := id rfl
theorem rng1_ap (f : W PyData) (P : List PyData → Rs → Prop) : rng1 f t P = f t fun x t1 => (match x with | .int j => need (inRng j) (ret (rngD 0 j.toNat)) | _ => bad) t1 P := id rfl
theorem rng2_ap (f g : W PyData) (P : List PyData → Rs → Prop) : rng2 f g t P = f t fun x t1 => (match x with | .int i => (bnd g fun y => match y with | .int j => need (inRng i ∧ inRng j) (ret (rngD i (j - i).toNat)) | _ => bad) | _ => bad) t1 P := id rfl
theorem slT_ap (f : W PyData) (lo hi : W (Option Int)) (P : PyData → Rs → Prop) : slT f lo hi t P = f t fun x t1 => (match x with | .tuple xs => bnd lo fun l => bnd hi fun u => ret (PyData.tuple (cutD xs l u)) | _ => bad) t1 P := id rfl
theorem slL_ap (f : W PyData) (lo hi : W (Option Int)) (P : List PyData → Rs → Prop) : slL f lo hi t P = f t fun x t1 => (match x with | .list xs => bnd lo fun l => bnd hi fun u => ret (cutD xs l u) | _ => bad) t1 P := id rfl
theorem oN_ap (P : Option Int → Rs → Prop) : oN t P = P none t := id rfl
theorem oS_ap (f : W PyData) (P : Option Int → Rs → Prop) : oS f t P = f t fun x t1 => (match x with | .int i => ret (some i) | _ => bad) t1 P := id rfl
theorem consA_ap (f : W PyData) (g : W (List PyData)) (P : List PyData → Rs → Prop) : consA f g t P = f t fun x t1 => g t1 fun xs t2 => P (x :: xs) t2 := id rfl
theorem catL_ap (f g : W PyData) (P : List PyData → Rs → Prop) : catL f g t P = f t fun x t1 => (match x with | .list xs => (bnd g fun y => match y with | .list ys => need (xs.length + ys.length ≤ 16777216) (ret (xs ++ ys)) | _ => bad) | _ => bad) t1 P := id rfl
theorem two_ap (k : PyData → PyData → W α) (x y : PyData) : two k (.tuple [x, y]) = k x y := id rfl
theorem three_ap (k : PyData → PyData → PyData → W α) (x y z : PyData) : three k (.tuple [x, y, z]) = k x y z := id rfl
theorem twoL_ap (k : PyData → PyData → W α) (x y : PyData) : twoL k (.list [x, y]) = k x y := id rfl
theorem threeL_ap (k : PyData → PyData → PyData → W α) (x y z : PyData) : threeL k (.list [x, y, z]) = k x y z := id rfl
theorem oadd_i (i j : Int) (P : PyData → Rs → Prop) : oadd (.int i) (.int j) t P = P (.int (i + j)) t := id rfl
theorem osub_i (i j : Int) (P : PyData → Rs → Prop) : osub (.int i) (.int j) t P = P (.int (i - j)) t := id rfl
theorem omul_i (i j : Int) (P : PyData → Rs → Prop) : omul (.int i) (.int j) t P = (CMul i j ∧ P (.int (i * j)) t) := id rfl
theorem ofdiv_i (i j : Int) (P : PyData → Rs → Prop) : ofdiv (.int i) (.int j) t P = (CDivN i j ∧ P (.int (i.fdiv j)) t) := id rfl
theorem omod_i (i j : Int) (P : PyData → Rs → Prop) : omod (.int i) (.int j) t P = (j ≠ 0 ∧ P (.int (i.fmod j)) t) := id rfl
theorem oneg_i (i : Int) (P : PyData → Rs → Prop) : oneg (.int i) t P = P (.int (-i)) t := id rfl
theorem olt_i (i j : Int) (P : PyData → Rs → Prop) : olt (.int i) (.int j) t P = P (.bool (decide (i < j))) t := id rfl
theorem ole_i (i j : Int) (P : PyData → Rs → Prop) : ole (.int i) (.int j) t P = P (.bool (decide (i ≤ j))) t := id rfl
theorem ogt_i (i j : Int) (P : PyData → Rs → Prop) : ogt (.int i) (.int j) t P = P (.bool (decide (i > j))) t := id rfl
theorem oge_i (i j : Int) (P : PyData → Rs → Prop) : oge (.int i) (.int j) t P = P (.bool (decide (i ≥ j))) t := id rfl
theorem onot_b (b : Bool) (P : PyData → Rs → Prop) : onot (.bool b) t P = P (.bool (!b)) t := id rfl
theorem oeq_ap (x y : PyData) (P : PyData → Rs → Prop) : oeq x y t P = ((SeqAt.shaped x = true ∧ SeqAt.shaped y = true) ∧ P (.bool (PyData.eqv x y)) t) := id rfl
theorem one_ap (x y : PyData) (P : PyData → Rs → Prop) : one_ x y t P = ((SeqAt.shaped x = true ∧ SeqAt.shaped y = true) ∧ P (.bool (!PyData.eqv x y)) t) := id rfl
theorem oisi_ap (T : String) (x : PyData) (P : PyData → Rs → Prop) : oisi T x t P = (noD x = true ∧ P (.bool (isiD T x)) t) := id rfl
theorem orepr_ap (x : PyData) (P : PyData → Rs → Prop) : orepr x t P = ((Fin x ∧ sz x ≤ 55000 ∧ x.depth ≤ 60) ∧ P (.str x.shown) t) := id rfl
theorem otup_l (xs : List PyData) (P : PyData → Rs → Prop) : otup (.list xs) t P = P (.tuple xs) t := id rfl
theorem otup_t (xs : List PyData) (P : PyData → Rs → Prop) : otup (.tuple xs) t P = P (.tuple xs) t := id rfl
theorem oint_i (i : Int) (P : PyData → Rs → Prop) : oint (.int i) t P = P (.int i) t := id rfl
theorem olen_t (xs : List PyData) (P : PyData → Rs → Prop) : olen (.tuple xs) t P = (xs.length ≤ 16777216 ∧ P (.int (xs.length : Nat)) t) := id rfl
theorem olen_l (xs : List PyData) (P : PyData → Rs → Prop) : olen (.list xs) t P = (xs.length ≤ 16777216 ∧ P (.int (xs.length : Nat)) t) := id rfl
theorem neS_ap (f g : W PyData) (P : Bool → Rs → Prop) : neS f g t P = f t fun x t1 => (match x with | .str y => (bnd g fun z => match z with | .str u => ret (!decide (y = u)) | _ => bad) | _ => bad) t1 P := id rfl
theorem arg0_ap (k : W B) : arg0 k [] = k := id rfl
theorem arg1_ap (k : PyData → W B) (a : PyData) : arg1 k [.d a] = k a := id rfl
theorem arg2_ap (k : PyData → PyData → W B) (a b : PyData) : arg2 k [.d a, .d b] = k a b := id rfl
theorem arg3_ap (k : PyData → PyData → PyData → W B) (a b c : PyData) : arg3 k [.d a, .d b, .d c] = k a b c := id rfl
theorem arg4_ap (k : PyData → PyData → PyData → PyData → W B) (a b c d : PyData) : arg4 k [.d a, .d b, .d c, .d d] = k a b c d := id rfl
theorem arg5_ap (k : PyData → PyData → PyData → PyData → PyData → W B) (a b c d e : PyData) : arg5 k [.d a, .d b, .d c, .d d, .d e] = k a b c d e := id rfl
theorem argR0_ap (k : W B) : argR0 k [.rd] = k := id rfl
theorem argR1_ap (k : PyData → W B) (a : PyData) : argR1 k [.rd, .d a] = k a := id rfl
theorem argR2_ap (k : PyData → PyData → W B) (a b : PyData) : argR2 k [.rd, .d a, .d b] = k a b := id rfl
theorem argR3_ap (k : PyData → PyData → PyData → W B) (a b c : PyData) : argR3 k [.rd, .d a, .d b, .d c] = k a b c := id rfl
theorem argR4_ap (k : PyData → PyData → PyData → PyData → W B) (a b c d : PyData) : argR4 k [.rd, .d a, .d b, .d c, .d d] = k a b c d := id rfl
end
theorem cond_t {α : Sort _} (a b : α) : (bif true then a else b) = a := id rfl
theorem cond_f {α : Sort _} (a b : α) : (bif false then a else b) = b := id rfl
/-! ### the reader's room -/
def Fr (n : Nat) (t : Rs) : Prop := t.ns.length ≤ 63 ∧ 0 ≤ t.draws ∧ t.draws + n < 1000000000000
theorem Fr.mono {n m : Nat} {t : Rs} (h : Fr n t) (e : m ≤ n) : Fr m t := ⟨h.1, h.2.1, by have := h.2.2; omega⟩
def drawW : List B → W B := fun bs t Q => ∃ m : Int, bs = [.rd, .d (.int m)] ∧ 0 < m ∧ m < 1073741824 ∧ t.ns.length ≤ 63 ∧ 0 ≤ t.draws ∧ t.draws < 1000000000000 ∧ ∀ (i : Int) (t' : Rs), 0 ≤ i → i < m → t'.ns = t.ns → t'.draws = t.draws + 1 → Q (.d (.int i)) t'
theorem draw_ap {n : Nat} {m : Int} {t : Rs} {P : B → Rs → Prop} (h : Fr (n + 1) t) (h0 : 0 < m) (h1 : m < 1073741824) (q : ∀ (i : Int) (t' : Rs), 0 ≤ i → i < m → Fr n t' → P (.d (.int i)) t') : drawW [.rd, .d (.int m)] t P :=
  ⟨m, rfl, h0, h1, h.1, h.2.1, by have := h.2.2; omega, fun i t' a b c d => q i t' a b ⟨by rw [c]; exact h.1, by have := h.2.1; omega, by have := h.2.2; omega⟩⟩
/-! ### places -/
theorem oixL {xs : List PyData} {i : Int} {t : Rs} {P : PyData → Rs → Prop} (h : 0 ≤ i) (h2 : i < xs.length) (q : ∀ (j : Nat) (z : PyData), i = j → xs[j]? = some z → P z t) : oix (.list xs) (.int i) t P := by
  obtain ⟨j, rfl⟩ : ∃ j : Nat, i = (j : Int) := ⟨i.toNat, (Int.toNat_of_nonneg h).symm⟩
  have hj : j < xs.length := by omega
  have e : atI xs (j : Int) = some xs[j] := atI_nat (List.getElem?_eq_getElem hj)
  show (match atI xs (j : Int) with | some z => ret z | none => bad) t P
  rw [e]
  exact q j _ rfl (List.getElem?_eq_getElem hj)
theorem oixT {xs : List PyData} {i : Int} {t : Rs} {P : PyData → Rs → Prop} (h : 0 ≤ i) (h2 : i < xs.length) (q : ∀ (j : Nat) (z : PyData), i = j → xs[j]? = some z → P z t) : oix (.tuple xs) (.int i) t P := by
  obtain ⟨j, rfl⟩ : ∃ j : Nat, i = (j : Int) := ⟨i.toNat, (Int.toNat_of_nonneg h).symm⟩
  have hj : j < xs.length := by omega
  have e : atI xs (j : Int) = some xs[j] := atI_nat (List.getElem?_eq_getElem hj)
  show (match atI xs (j : Int) with | some z => ret z | none => bad) t P
  rw [e]
  exact q j _ rfl (List.getElem?_eq_getElem hj)
theorem oixTn {xs : List PyData} {j : Nat} {z : PyData} {t : Rs} {P : PyData → Rs → Prop} (e : xs[j]? = some z) (q : P z t) : oix (.tuple xs) (.int (j : Int)) t P := by
  show (match atI xs (j : Int) with | some z => ret z | none => bad) t P
  rw [atI_nat e]
  exact q
theorem oixLn {xs : List PyData} {j : Nat} {z : PyData} {t : Rs} {P : PyData → Rs → Prop} (e : xs[j]? = some z) (q : P z t) : oix (.list xs) (.int (j : Int)) t P := by
  show (match atI xs (j : Int) with | some z => ret z | none => bad) t P
  rw [atI_nat e]
  exact q
/-- a place that is known -/
theorem oixT0 {xs : List PyData} {i : Int} {z : PyData} {t : Rs} {P : PyData → Rs → Prop} (e : atI xs i = some z) (q : P z t) : oix (.tuple xs) (.int i) t P := by
  show (match atI xs i with | some z => ret z | none => bad) t P
  rw [e]
  exact q
theorem oixL0 {xs : List PyData} {i : Int} {z : PyData} {t : Rs} {P : PyData → Rs → Prop} (e : atI xs i = some z) (q : P z t) : oix (.list xs) (.int i) t P := by
  show (match atI xs i with | some z => ret z | none => bad) t P
  rw [e]
  exact q
theorem oix_pick {xs : List PyData} {i : Int} {t : Rs} {P : PyData → Rs → Prop} (h : 0 ≤ i) (h2 : i < xs.length) (q : ∀ z ∈ xs, P z t) : oix (.list xs) (.int i) t P := oixL h h2 fun j z _ e => q z (List.mem_of_getElem? e)
/-! ### loops -/
theorem for_inv {σ : Type} {f : σ → PyData → W (Out σ σ)} (I : List PyData → σ → Rs → Prop) {P : Sum σ B → Rs → Prop} (step : ∀ x r s t, I (x :: r) s t → f s x t fun o t' => match o with | .nx s' => I r s' t' | .ct s' => I r s' t' | .bk s' => P (.inl s') t' | .rt b => P (.inr b) t')
    (fin : ∀ s t, I [] s t → P (.inl s) t) (mono : ∀ x s t (Q Q' : Out σ σ → Rs → Prop), (∀ o t', Q o t' → Q' o t') → f s x t Q → f s x t Q') : ∀ (xs : List PyData) (s : σ) (t : Rs), I xs s t → forW f xs s t P
  | [], s, t, h => fin s t h
  | x :: r, s, t, h => by
    show f s x t fun o t1 => (match o with | .nx s' => forW f r s' | .ct s' => forW f r s' | .bk s' => ret (.inl s') | .rt b => ret (.inr b)) t1 P
    refine mono x s t _ _ (fun o t' w => ?_) (step x r s t h)
    cases o with
    | nx s' => exact for_inv I step fin mono r s' t' w
    | ct s' => exact for_inv I step fin mono r s' t' w
    | bk s' => exact w
    | rt b => exact w
/-- a loop: each turn is shown for whatever is wished behind it -/
theorem for_cps {σ : Type} {f : σ → PyData → W (Out σ σ)} (I : List PyData → σ → Rs → Prop) {P : Sum σ B → Rs → Prop} (step : ∀ x r s t, I (x :: r) s t → ∀ Q : Out σ σ → Rs → Prop, (∀ s' t', I r s' t' → Q (.nx s') t') → f s x t Q)
    (fin : ∀ s t, I [] s t → P (.inl s) t) : ∀ (xs : List PyData) (s : σ) (t : Rs), I xs s t → forW f xs s t P
  | [], s, t, h => fin s t h
  | x :: r, s, t, h => step x r s t h _ fun s' t' w => for_cps I step fin r s' t' w
theorem map_cps {f : PyData → W PyData} (I : List PyData → List PyData → Rs → Prop) (step : ∀ x r acc t, I (x :: r) acc t → ∀ Q : PyData → Rs → Prop, (∀ y t', I r (acc ++ [y]) t' → Q y t') → f x t Q) :
    ∀ (xs acc : List PyData) (t : Rs) (P : List PyData → Rs → Prop), I xs acc t → (∀ ys t', I [] (acc ++ ys) t' → P ys t') → mapW f xs t P
  | [], acc, t, P, h, q => q [] t (by rw [List.append_nil]; exact h)
  | x :: r, acc, t, P, h, q => step x r acc t h _ fun y t' w => map_cps I step r (acc ++ [y]) t' _ w fun ys t2 z => q (y :: ys) t2 (by rw [List.append_assoc] at z; exact z)
theorem map_fun {f : PyData → W PyData} {g : PyData → PyData} {t : Rs} : ∀ {xs : List PyData} {P : List PyData → Rs → Prop}, (∀ x ∈ xs, ∀ Q : PyData → Rs → Prop, Q (g x) t → f x t Q) → P (xs.map g) t → mapW f xs t P
  | [], P, _, q => q
  | x :: r, P, h, q => h x (List.mem_cons_self ..) _ (map_fun (fun y hy => h y (List.mem_cons_of_mem _ hy)) q)
theorem fil_fun {f : PyData → W (Option PyData)} {g : PyData → Option PyData} {t : Rs} : ∀ {xs : List PyData} {P : List PyData → Rs → Prop}, (∀ x ∈ xs, ∀ Q : Option PyData → Rs → Prop, Q (g x) t → f x t Q) → P (xs.filterMap g) t → filO f xs t P
  | [], P, _, q => q
  | x :: r, P, h, q => h x (List.mem_cons_self ..) _ (by
    rw [List.filterMap_cons] at q
    cases e : g x with
    | none =>
      rw [e] at q
      exact fil_fun (fun y hy => h y (List.mem_cons_of_mem _ hy)) q
    | some y =>
      rw [e] at q
      exact fil_fun (P := fun ys t => P (y :: ys) t) (fun y hy => h y (List.mem_cons_of_mem _ hy)) q)
end Dw
end
section
set_option maxRecDepth 100000
set_option maxHeartbeats 4000000
namespace Dz
open PySem PySem.Spec PyProof.Rows L2 Dl Dw
/-! ### the order of tuples of ints -/
def lexI : List Int → List Int → Bool
  | [], [] => false
  | [], _ :: _ => true
  | _ :: _, [] => false
  | x :: a, y :: b => if x = y then lexI a b else decide (x < y)
theorem lexI_irr : ∀ a, lexI a a = false
  | [] => rfl
  | x :: a => by rw [lexI, if_pos rfl, lexI_irr a]
theorem lexI_asym : ∀ a b, lexI a b = true → lexI b a = false
  | [], [], h => by cases h
  | [], _ :: _, _ => rfl
  | _ :: _, [], h => by cases h
  | x :: a, y :: b, h => by
    rw [lexI] at h ⊢
    by_cases e : x = y
    · rw [if_pos e] at h
      rw [if_pos e.symm]
      exact lexI_asym a b h
    · rw [if_neg e, decide_eq_true_eq] at h
      rw [if_neg (Ne.symm e), decide_eq_false_iff_not]
      omega
theorem lexI_tot : ∀ a b, lexI a b = false → lexI b a = false → a = b
  | [], [], _, _ => rfl
  | [], _ :: _, h, _ => by cases h
  | _ :: _, [], _, h => by cases h
  | x :: a, y :: b, h, h2 => by
    rw [lexI] at h h2
    by_cases e : x = y
    · rw [if_pos e] at h
      rw [if_pos e.symm] at h2
      rw [e, lexI_tot a b h h2]
    · rw [if_neg e, decide_eq_false_iff_not] at h
      rw [if_neg (Ne.symm e), decide_eq_false_iff_not] at h2
      omega
theorem lexI_tr : ∀ a b c, lexI b a = false → lexI c b = false → lexI c a = false
  | [], [], [], _, _ => rfl
  | [], [], _ :: _, _, h => h
  | [], _ :: _, [], _, h => by cases h
  | [], _ :: _, _ :: _, _, _ => rfl
  | _ :: _, [], _, h, _ => by cases h
  | _ :: _, _ :: _, [], _, h => by cases h
  | x :: a, y :: b, z :: c, h, h2 => by
    rw [lexI] at h h2 ⊢
    by_cases e : y = x <;> by_cases e2 : z = y
    · rw [if_pos e] at h
      rw [if_pos e2] at h2
      rw [if_pos (e2.trans e)]
      exact lexI_tr a b c h h2
    · rw [if_neg e2, decide_eq_false_iff_not] at h2
      rw [if_neg (fun z => e2 (z.trans e.symm)), decide_eq_false_iff_not]
      omega
    · rw [if_neg e, decide_eq_false_iff_not] at h
      rw [if_neg (fun z => e (e2.symm.trans z)), decide_eq_false_iff_not]
      omega
    · rw [if_neg e, decide_eq_false_iff_not] at h
      rw [if_neg e2, decide_eq_false_iff_not] at h2
      by_cases e3 : z = x
      · omega
      · rw [if_neg e3, decide_eq_false_iff_not]
        omega
/-- sorted, without duplicates -/
def insI (x : List Int) : List (List Int) → List (List Int)
  | [] => [x]
  | y :: r => if lexI x y = true then x :: y :: r else if x = y then y :: r else y :: insI x r
def sdd (nss : List (List Int)) : List (List Int) := nss.foldr insI []
abbrev Asc (l : List (List Int)) : Prop := l.Pairwise fun a b => lexI a b = true
theorem mem_insI {x z : List Int} : ∀ {l : List (List Int)}, z ∈ insI x l ↔ z = x ∨ z ∈ l
  | [] => by simp [insI]
  | y :: r => by
    rw [insI]
    split
    · simp
    · split
      · rename_i h e
        subst e
        simp
      · rw [List.mem_cons, mem_insI, List.mem_cons]
        constructor
        · rintro (h | h | h)
          · exact .inr (.inl h)
          · exact .inl h
          · exact .inr (.inr h)
        · rintro (h | h | h)
          · exact .inr (.inl h)
          · exact .inl h
          · exact .inr (.inr h)
theorem lexI_trans {a b c : List Int} (h : lexI a b = true) (h2 : lexI b c = true) : lexI a c = true := by
  cases e : lexI a c with
  | true => rfl
  | false =>
    have := lexI_tr b c a (lexI_asym _ _ h2) e
    rw [h] at this
    cases this
theorem asc_insI {x : List Int} : ∀ {l : List (List Int)}, Asc l → Asc (insI x l)
  | [], _ => List.pairwise_singleton _ _
  | y :: r, h => by
    obtain ⟨h1, h2⟩ := List.pairwise_cons.mp h
    rw [insI]
    split
    · rename_i e
      refine List.pairwise_cons.mpr ⟨fun z hz => ?_, h⟩
      rcases List.mem_cons.mp hz with rfl | hz
      · exact e
      · exact lexI_trans e (h1 z hz)
    · split
      · exact h
      · rename_i e e2
        refine List.pairwise_cons.mpr ⟨fun z hz => ?_, asc_insI h2⟩
        rcases mem_insI.mp hz with rfl | hz
        · cases e3 : lexI y z with
          | true => rfl
          | false => exact absurd (lexI_tot _ _ (by simpa using e) e3) e2
        · exact h1 z hz
theorem mem_sdd {z : List Int} : ∀ {l : List (List Int)}, z ∈ sdd l ↔ z ∈ l
  | [] => by simp [sdd]
  | y :: r => by
    show z ∈ insI y (sdd r) ↔ _
    rw [mem_insI, mem_sdd, List.mem_cons]
theorem asc_sdd : ∀ l : List (List Int), Asc (sdd l)
  | [] => List.Pairwise.nil
  | y :: r => asc_insI (asc_sdd r)
theorem asc_uniq : ∀ {a b : List (List Int)}, Asc a → Asc b → (∀ x, x ∈ a ↔ x ∈ b) → a = b
  | [], [], _, _, _ => rfl
  | [], y :: b, _, _, h => absurd ((h y).mpr (List.mem_cons_self ..)) (by simp)
  | x :: a, [], _, _, h => absurd ((h x).mp (List.mem_cons_self ..)) (by simp)
  | x :: a, y :: b, ha, hb, h => by
    obtain ⟨h1, h2⟩ := List.pairwise_cons.mp ha
    obtain ⟨h3, h4⟩ := List.pairwise_cons.mp hb
    have e : x = y := by
      rcases List.mem_cons.mp ((h x).mp (List.mem_cons_self ..)) with e | m1
      · exact e
      · rcases List.mem_cons.mp ((h y).mpr (List.mem_cons_self ..)) with e | m2
        · exact e.symm
        · have := lexI_asym _ _ (h3 x m1)
          rw [h1 y m2] at this
          cases this
    subst e
    have nx : x ∉ a := fun m => by
      have := h1 x m
      rw [lexI_irr] at this
      cases this
    have ny : x ∉ b := fun m => by
      have := h3 x m
      rw [lexI_irr] at this
      cases this
    rw [asc_uniq h2 h4 fun z => ?_]
    constructor
    · intro m
      rcases List.mem_cons.mp ((h z).mp (List.mem_cons_of_mem _ m)) with e | m2
      · subst e
        exact absurd m nx
      · exact m2
    · intro m
      rcases List.mem_cons.mp ((h z).mpr (List.mem_cons_of_mem _ m)) with e | m2
      · subst e
        exact absurd m ny
      · exact m2
/-! ### sorted of a set of tuples of ints -/
def IsInts (h : Heap) (v : Value) (ns : List Int) : Prop := ∃ a o its n, v = .ref a ∧ h.get? a = some o ∧ o.cls = .type "tuple" ∧ o.data = .seq its n ∧ IntsAre its.toList ns
theorem IsInts.keeps {h h' : Heap} {v : Value} {ns : List Int} (p : IsInts h v ns) (k : ∀ b o, h.get? b = some o → o.cls = .type "tuple" → h'.get? b = some o) : IsInts h' v ns := by
  obtain ⟨a, o, its, n, e, ho, hc, hd, hi⟩ := p
  exact ⟨a, o, its, n, e, k _ _ ho hc, hc, hd, hi⟩
theorem ints_uniq : ∀ {vs : List Value} {a b : List Int}, IntsAre vs a → IntsAre vs b → a = b
  | _, _, _, .nil, .nil => rfl
  | _, _, _, .cons x t r, .cons _ _ r2 => by rw [ints_uniq r r2]
theorem IsInts.uniq {h : Heap} {v : Value} {a b : List Int} (p : IsInts h v a) (q : IsInts h v b) : a = b := by
  obtain ⟨x, o, its, n, e, ho, hc, hd, hi⟩ := p
  obtain ⟨x', o', its', n', e', ho', hc', hd', hi'⟩ := q
  subst e
  cases e'
  rw [ho] at ho'
  cases ho'
  rw [hd] at hd'
  cases hd'
  exact ints_uniq hi hi'
section
variable {prog : Program} {w : World} {A : Around} {E : Value → Shared → Prop} {s : Shared}
theorem kat_ints {R : Bool → Shared → Prop} : ∀ {xs ys : List Value} {a b : List Int} (i : Nat), IntsAre xs a → IntsAre ys b → R (lexI a b) s → PySem.W.KatLex prog w A true (decide (a.length < b.length)) R (xs.zip ys) i s
  | _, _, _, _, i, .nil, .nil, h => PySem.W.kat_nil h
  | _, _, _, y :: b, i, .nil, .cons _ u r, h => PySem.W.kat_nil (by
    have e : lexI [] (y :: b) = decide (([] : List Int).length < (y :: b).length) := by simp [lexI]
    rw [← e]
    exact h)
  | _, _, _, _, i, .cons x t r, .nil, h => PySem.W.kat_nil h
  | _, _, x :: a, y :: b, i, .cons _ t r, .cons _ u r2, h => by
    refine PySem.W.kat_cons (SeqAt.EqAt.int_int x t y u prog w _ _ ?_)
    refine PySem.W.kat_go (fun e1 => ?_) (fun e1 => ?_)
    · have ex : x = y := by simpa using e1
      refine PySem.W.kat_yes ?_
      rw [show decide ((x :: a).length < (y :: b).length) = decide (a.length < b.length) from by simp]
      refine kat_ints (i + 1) r r2 ?_
      rw [lexI, if_pos ex] at h
      exact h
    · have ex : ¬ x = y := by simpa using e1
      rw [lexI, if_neg ex] at h
      cases i with
      | zero => exact PySem.W.kat_no (oneLt_int h)
      | succ i => exact PySem.W.kat_no (PySem.W.kat_one _ _ (PyProof.Rows.lt_int h))
theorem swo_lexI (k : Value → List Int) : SrtO.Swo fun v u => lexI (k v) (k u) := ⟨fun x y h => lexI_asym _ _ h, fun x y z h1 h2 => lexI_tr _ _ _ h1 h2⟩
theorem ints_cmp {vs : List Value} {k : Value → List Int} (hp : ∀ v ∈ vs, IsInts s.heap v (k v)) : SrtO.Cmp prog w A s (tuples' true) (fun p => p.1 ∈ vs) (SrtO.lt2 fun v u => lexI (k v) (k u)) := by
  intro p q hm hm'
  have h1 := hp _ hm
  have h2 := hp _ hm'
  show wpAny (model prog w) A (keyLt' (tuples' true) p.1 q.1) (fun r s' => s' = s ∧ r = lexI (k p.1) (k q.1)) (fun _ _ => False) s
  generalize k p.1 = x at h1 ⊢
  generalize k q.1 = y at h2 ⊢
  obtain ⟨a, o, t, n, e, ho, hc, hd, hi⟩ := h1
  obtain ⟨a', o', t', n', e', ho', hc', hd', hi'⟩ := h2
  rw [e, e']
  refine PySem.W.kat_lt ho hd ho' hd' ?_
  have l1 : t.size = x.length := by rw [← Array.length_toList]; exact hi.length
  have l2 : t'.size = y.length := by rw [← Array.length_toList]; exact hi'.length
  rw [l1, l2]
  exact kat_ints 0 hi hi' ⟨rfl, rfl⟩
theorem firstsI {h : Heap} {k : Value → List Int} : ∀ {vs : List Value}, (∀ v ∈ vs, IsInts h v (k v) ∧ k v ≠ []) → ∃ fs : List Value, PySem.W.KatTups h vs fs ∧ fs.length = vs.length ∧ ∀ f ∈ fs, ∃ x t, f = Value.int x t
  | [], _ => ⟨[], PySem.W.KatTups.nil, rfl, fun _ hm => by simp at hm⟩
  | v :: vs, hp => by
    obtain ⟨fs, h1, h2, h3⟩ := firstsI (vs := vs) fun v' hm => hp v' (List.mem_cons_of_mem _ hm)
    obtain ⟨⟨a, o, its, n, e, ho, hc, hd, hi⟩, ne⟩ := hp v (List.mem_cons_self ..)
    subst e
    generalize k (.ref a) = ns at hi ne
    obtain ⟨x, t, r, el⟩ : ∃ x t r, its.toList = Value.int x t :: r := by
      generalize its.toList = l at hi
      cases hi with
      | nil => exact absurd rfl ne
      | cons x t r => exact ⟨x, t, _, rfl⟩
    have e0 : its[0]? = some (Value.int x t) := by
      rw [← Array.getElem?_toList, el]
      rfl
    refine ⟨.int x t :: fs, PySem.W.KatTups.cons ho hc hd e0 h1, by rw [List.length_cons, List.length_cons, h2], fun f hm => ?_⟩
    rcases List.mem_cons.mp hm with rfl | hm
    · exact ⟨x, t, rfl⟩
    · exact h3 f hm
theorem ints_sortableO {a : Addr} {vs : List Value} {k : Value → List Int} (h0 : 0 < vs.length) (hp : ∀ v ∈ vs, IsInts s.heap v (k v) ∧ k v ≠ []) (ha : ∀ o, s.heap.get? a = some o → o.cls ≠ .type "tuple") : SrtO.SortableO prog w A s a vs fun v u => lexI (k v) (k u) := by
  intro h' keep
  have hp' : ∀ v ∈ vs, IsInts h' v (k v) ∧ k v ≠ [] := fun v hm => ⟨(hp v hm).1.keeps fun b o e c => keep b o (fun z => by subst z; exact ha o e c) e, (hp v hm).2⟩
  obtain ⟨fs, h1, h2, h3⟩ := firstsI hp'
  refine ⟨tuples' true, fun Q E hq => ?_, ints_cmp fun v hv => (hp' v hv).1⟩
  refine PySem.W.kat_kind (T := .type "int") h1 (by omega) (fun f hm => ?_) (by rfl) ?_
  · obtain ⟨x, t, rfl⟩ := h3 f hm
    exact PySem.W.Looks.now
  · have e : (Value.type "int" != Value.type "tuple") = true := by first | decide +kernel | rfl | decide
    rw [e]
    exact hq
end
section
variable {P : Program} {w : World} {A : Around} {E : Value → Shared → Prop} {s : Shared}
theorem isT_ints {h : Heap} {k : List Int} {b : Addr} (x : IsT P w h k b) : IsInts h (.ref b) k := by
  obtain ⟨o, its, n, ho, hc, hd, hi⟩ := x
  exact ⟨b, o, its, n, rfl, ho, hc, hd, ints_of_items hi⟩
theorem sorted_setI {a : Addr} {L : List (Addr × List Int)} {es : Array (Int × Value)} {ep : Nat} {t : SetTable} {Q : Value → Shared → Prop} (R : SetTR P w s.heap a L es ep t) (hh : A.handled = none) (ne : ∀ p ∈ L, p.2 ≠ []) {k : Value → List Int} (hk : ∀ p ∈ L, k (.ref p.1) = p.2)
    (hQ : ∀ s' p (out : List Value) (c : Nat), (∀ b o, s.heap.get? b = some o → s'.heap.get? b = some o) → s'.gens = s.gens → s'.os = s.os → s.heap.objs.size ≤ p → s'.heap.get? p = some (seqObj "list" out.toArray c) → out.Perm (L.map fun q => Value.ref q.1) → SrtO.Srtd (fun v u => lexI (k v) (k u)) out → Q (.ref p) s') :
    wpAny (model P w) A (call (.builtin "sorted") [.ref a]) Q E s := by
  obtain ⟨ob, h1, h2, h3⟩ := R.ob
  have few := R.few
  have sz := R.size
  refine Calls.call_function_entry kind_sorted plain_sorted entry_sorted (args_sorted1 _) ?_
  unfold Builtin.«sorted»
  refine wpAny_bind (m := checkCount "sorted" 1 1 _) (wpAny_pure ?_)
  refine wpAny_bind (collect_set (A := A.in1) hh ⟨ob, h1, h2.1, h3⟩ R.fits (by unfold scanBound; omega) R.tab.ris R.led fun s1 vs k1 z1 g1 o1 pm => ?_)
  have rows : es.toList.map (·.2) = L.map fun q => Value.ref q.1 := by
    rw [R.rows]
    unfold L2.rowsOf
    rw [List.map_map] <;> rfl
  rw [rows] at pm
  have fit : vs.length ≤ sizeLine := by
    rw [pm.length_eq, List.length_map, sizeLine_eq]
    omega
  refine wpAny_bind (wpAny_newList ?_ fit)
  have at1 : (s1.heap.push (seqObj "list" vs.toArray 0)).get? s1.heap.objs.size = some (seqObj "list" vs.toArray 0) := Heap.get?_push_size _ rfl
  have pairs : ∀ v ∈ vs, IsInts (s1.heap.push (seqObj "list" vs.toArray 0)) v (k v) ∧ k v ≠ [] := fun v hv => by
    obtain ⟨q, hq, rfl⟩ := List.mem_map.mp (pm.mem_iff.mp hv)
    rw [hk q hq]
    exact ⟨isT_ints (P := P) (w := w) (isT_keep (R.tup q hq) fun b u e => Heap.get?_push_of_some _ (k1 b u e)), ne q hq⟩
  refine wpAny_bind (wpAny_holding (wpAny_call_entry slot_list_sort ⟨_, at1, rfl⟩ entry_list_sort (SrtO.list_sort_ord (swo_lexI k) (s := { s1 with heap := s1.heap.push (seqObj "list" vs.toArray 0) }) at1 fit (fun h2 => ints_sortableO (s := { s1 with heap := s1.heap.push (seqObj "list" vs.toArray 0) }) (by omega) pairs fun o e => ?_) fun out hs ho => ⟨_, rfl, ?_⟩) (args_list_sort _)))
  · have e' : some o = some (seqObj "list" vs.toArray 0) := e.symm.trans at1
    cases e'
    intro c
    exact absurd (Value.type.inj c) (by decide)
  · obtain ⟨c, hc⟩ := sortedHeap_at (vs := vs) (out := out.toArray) at1
    refine wpAny_pure ⟨_, rfl, hQ _ s1.heap.objs.size out c (fun b u e => ?_) g1 o1 z1 hc (ho.perm.trans pm) hs⟩
    have e1 := k1 b u e
    have lt := Heap.lt_size e1
    show (sortedHeap (s1.heap.push (seqObj "list" vs.toArray 0)) s1.heap.objs.size vs out.toArray).get? b = some u
    rw [sortedHeap_old (Nat.ne_of_lt lt) (by rw [size_push']; exact Nat.lt_succ_of_lt lt)]
    exact Heap.get?_push_of_some _ e1
end
def rSortedI (K : PySem.W.Frag) (P : Program) (w : World) : List V → Hp → VK → Prop := fun vs H Q => ∃ (a : Addr) (L : List (Addr × List Int)), vs = [V.ref a] ∧ H a = some (SetTO P w a L) ∧ (∀ p ∈ L, SqT K H p.1 (p.2.map V.int) ∧ p.2 ≠ []) ∧
  ∀ (L2 : List (Addr × List Int)) (p : Addr), (∀ q ∈ L2, q ∈ L) → Asc (L2.map (·.2)) → (∀ x, x ∈ L2.map (·.2) ↔ x ∈ L.map (·.2)) → L2.length < 64 → H p = none → Q (.ref p) (upd H p (.lst (L2.map fun q => V.ref q.1)))
section
variable {X : Cx}
theorem cr_sortedI (hc : X.calm = true) : CallR X (.builtin "sorted") (rSortedI X.KK X.prog X.w) := by
  intro pins s σ H vs us Q I r h
  obtain ⟨a, L, rfl, ha, hk, q⟩ := h
  have R0 : SetT0 X.prog X.w s.heap a L := (I.hok a _ ha).1
  obtain ⟨es, ep, t, R⟩ := R0.full fun p hp => I.isT (hk p hp).1
  rw [Vals.ref1 r]
  have hI : ∀ p ∈ L, IsInts s.heap (.ref p.1) p.2 := fun p hp => isT_ints (I.isT (hk p hp).1)
  let k : Value → List Int := fun v => open Classical in if h : ∃ ns, IsInts s.heap v ns then h.choose else []
  have hkk : ∀ p ∈ L, k (.ref p.1) = p.2 := fun p hp => by
    have ex : ∃ ns, IsInts s.heap (.ref p.1) ns := ⟨_, hI p hp⟩
    show (open Classical in if h : ∃ ns, IsInts s.heap (.ref p.1) ns then h.choose else []) = _
    rw [dif_pos ex]
    exact ex.choose_spec.uniq (hI p hp)
  refine sorted_setI R (I.ok.hd hc) (fun p hp => (hk p hp).2) hkk fun s2 p out c k2 g o hp hg perm srt => ?_
  obtain ⟨L2, rfl, sub, len⟩ := perm_map_out _ perm
  have few := R.few
  have fresh : H p = none := I.hok.fresh hp
  have J : Inv X pins σ (upd H p (.lst (L2.map fun q => V.ref q.1))) { s with heap := s2.heap, gens := s2.gens, drawn := s2.drawn, toks := s2.toks } :=
    I.call (ch := []) (Un.laid k2 hp fresh) (I.hok.laid k2 hp ⟨by rw [List.length_map, sizeLine_eq]; omega, _, c, vals_of_refs L2, hg⟩) (by rw [g]; exact I.bare) fun _ z => nomatch z
  have e : s2 = { s with heap := s2.heap, gens := s2.gens, drawn := s2.drawn, toks := s2.toks } := by
    cases s2
    cases s
    cases o
    rfl
  rw [e]
  have em : (L2.map fun q => Value.ref q.1).map k = L2.map (·.2) := by
    rw [List.map_map]
    exact List.map_congr_left fun q hq => hkk q (sub q hq)
  have em2 : (L.map fun q => Value.ref q.1).map k = L.map (·.2) := by
    rw [List.map_map]
    exact List.map_congr_left fun q hq => hkk q hq
  have pm2 : (L2.map (·.2)).Perm (L.map (·.2)) := by
    have := perm.map k
    rwa [em, em2] at this
  have nd : (L2.map (·.2)).Nodup := pm2.nodup_iff.mpr R.nd
  have asc : Asc (L2.map (·.2)) := by
    have h1 : ((L2.map fun q => Value.ref q.1).map k).Pairwise fun a b => lexI b a = false := List.pairwise_map.mpr srt
    rw [em] at h1
    refine (h1.and nd).imp fun {a b} h => ?_
    cases e : lexI a b with
    | true => rfl
    | false => exact absurd (lexI_tot _ _ e h.1) h.2
  exact ⟨.ref p, _, J, rfl, q L2 p sub asc (fun x => pm2.mem_iff) (by omega) fresh⟩
end
/-- lists of tuples of ints -/
def intRows : List PyData → Option (List (List Int))
  | [] => some []
  | .tuple r :: q => match intsOf r with
    | some ns => (intRows q).map (ns :: ·)
    | none => none
  | _ => none
abbrev iRow (ns : List Int) : PyData := .tuple (ns.map .int)
theorem intRows_map : ∀ nss : List (List Int), intRows (nss.map iRow) = some nss
  | [] => rfl
  | ns :: nss => by
    rw [List.map_cons, intRows, intsOf_map, intRows_map]
    rfl
theorem intRows_some : ∀ {xs : List PyData} {nss : List (List Int)}, intRows xs = some nss → xs = nss.map iRow
  | [], _, h => by cases h; rfl
  | x :: q, nss, h => by
    cases x with
    | tuple r =>
      rw [intRows] at h
      cases e : intsOf r with
      | none => rw [e] at h; cases h
      | some ns =>
        rw [e] at h
        cases e2 : intRows q with
        | none => rw [e2] at h; cases h
        | some ms =>
          rw [e2] at h
          cases h
          rw [List.map_cons, ← intRows_some e2, intsOf_some e]
    | _ => cases h
/-- sorted(set(xs)) of a list of tuples of ints -/
def sdW (f : W PyData) : W (List PyData) := bnd f fun x => match x with
  | .list xs => match intRows xs with
    | some nss => need (nss.length < 64 ∧ ∀ ns ∈ nss, ns ≠ []) (Dw.ret ((sdd nss).map iRow))
    | none => bad
  | _ => bad
section
variable {X : Cx} {Wo : WO} {M : Md X.KK Wo} {ρ : List B} {e : Expr} {f : W PyData} {kk : Nat} {pos pos2 p1 p2 : Pos}
theorem rl_sortedSet (E : Ev X kk) (ha : RD M e ρ f) (hg1 : Gl X "sorted" := by rfl) (hg2 : Gl X "set" := by rfl) (h3 : starEach [e] X.env = (false, eval e X.env) :: starEach [] X.env := by rfl)
    (h4 : starEach [.Call (.Name "set" p2) [e] [] pos2] X.env = (false, eval (.Call (.Name "set" p2) [e] [] pos2) X.env) :: starEach [] X.env := by rfl) : RL M (.Call (.Name "sorted" p1) [.Call (.Name "set" p2) [e] [] pos2] [] pos) ρ (sdW f) := ⟨fun t P z =>
  jl_of (pe_callB (cr_sortedI E.calm) hg1 E.bu.sorted boot_sorted' (pa_cons (pe_callTy (cr_setOfT E.calm (by have := E.room.un; omega)) hg2 E.bu.set boot_set' (pa_cons peT pa_nil h3) (by decide) (by decide) h3 rfl) pa_nil h4) (by decide) (by decide) h4 rfl) fun σ G H S Q q =>
    (ha.run t _ z) σ G H S _ fun G1 H1 v x t1 s1 d1 z1 => by
      cases x <;> first | exact z1.elim | skip
      rename_i xs
      have z2 : (match intRows xs with | some nss => need (nss.length < 64 ∧ ∀ ns ∈ nss, ns ≠ []) (Dw.ret ((sdd nss).map iRow)) | none => bad) t1 P := z1
      cases en : intRows xs with
      | none => rw [en] at z2; exact z2.elim
      | some nss =>
      rw [en] at z2
      obtain rfl := intRows_some en
      obtain ⟨⟨few, ne⟩, p⟩ := z2
      obtain ⟨l, ws, rfl, st, da⟩ := d1.lstE
      obtain ⟨ks, rfl, e2, e3⟩ := rows_of da
      have k1 := (S.step s1).ok
      have hlen : ks.length = nss.length := by rw [← e2, List.length_map]
      refine ⟨l, ks, rfl, .inl (.inl (k1.sub _ _ st)), fun p hp => sqt_up k1.sub (e3 p hp), by omega, fun a L ha sub sub' => ?_⟩
      have s2 := k1.layO (o := SetTO X.prog X.w a L) ha
      have k2 := k1.step s2
      have in2 : ∀ q ∈ L, q.2 ∈ nss := fun q hq => by
        rw [← e2]
        exact List.mem_map.mpr ⟨q, sub q hq, rfl⟩
      refine ⟨a, L, rfl, upd_same, fun p hp => ⟨sqt_up s2.sub (e3 p (sub p hp)), ne _ (in2 p hp)⟩, fun L2 p2 sub2 asc mem len2 hp2 => ?_⟩
      have s3 := k2.layO (o := .lst (L2.map fun q => V.ref q.1)) hp2
      have eq : L2.map (·.2) = sdd nss := asc_uniq asc (asc_sdd nss) fun x => by
        rw [mem x, mem_sdd]
        constructor
        · intro h
          obtain ⟨q, hq, rfl⟩ := List.mem_map.mp h
          exact in2 q hq
        · intro h
          rw [← e2] at h
          obtain ⟨q, hq, rfl⟩ := List.mem_map.mp h
          exact sub' q hq
      have p' : P ((L2.map (·.2)).map fun ns => .tuple (ns.map PyData.int)) t1 := by
        rw [eq]
        exact p
      exact q G1 _ p2 _ _ t1 (s1.trans (s2.trans s3)) (fresh_of (s1.trans s2) hp2) (none_of k2 hp2) upd_same (rows_back L2 fun r hr => e3 r (sub r (sub2 r hr))) p'⟩
end
end Dz
end
section
set_option maxRecDepth 100000
set_option maxHeartbeats 4000000
namespace Dz
open PySem PySem.Spec PyProof.Rows L2 Dl Dw
section
variable {X : Cx} {Wo : WO} {M : Md X.KK Wo} {ρ : List B} {e a b o tg : Expr} {es : List Expr} {f g : W PyData} {lf : W (List PyData)} {kk : Nat} {pos cpos apos p q : Pos} {x y : Str} {τ σ : Type} {emb : τ → List B} {emc : σ → List B} {rest : List Stmt} {xs : List PyData}
/-! ### texts -/
def strsOf : List PyData → Option (List Str)
  | [] => some []
  | .str b :: r => (strsOf r).map (b :: ·)
  | _ => none
theorem strsOf_map : ∀ bs : List Str, strsOf (bs.map PyData.str) = some bs
  | [] => rfl
  | b :: bs => by rw [List.map_cons, strsOf, strsOf_map]; rfl
theorem strsOf_some : ∀ {xs : List PyData} {bs : List Str}, strsOf xs = some bs → xs = bs.map PyData.str
  | [], bs, h => by cases h; rfl
  | x :: r, bs, h => by
    cases x with
    | str b =>
      rw [strsOf] at h
      cases e : strsOf r with
      | none => rw [e] at h; cases h
      | some cs =>
        rw [e] at h
        cases h
        rw [List.map_cons, ← strsOf_some e]
    | _ => cases h
def joinD (a : Str) (xs : List PyData) : W PyData := match strsOf xs with
  | some ss => need ((ss.map (·.length)).sum + ss.length * a.length ≤ 16777216) (Dw.ret (.str (Txt.join a ss)))
  | none => bad
def joinW (f g : W PyData) : W PyData := bnd f fun x => match x with
  | .str a => bnd g fun y => match y with
    | .list xs => joinD a xs
    | .tuple xs => joinD a xs
    | _ => bad
  | _ => bad
theorem joinD_of {a : Str} {xs : List PyData} {t : Rs} {P : PyData → Rs → Prop} (h : joinD a xs t P) : ∃ ss, xs = ss.map PyData.str ∧ (ss.map (·.length)).sum + ss.length * a.length ≤ 16777216 ∧ P (.str (Txt.join a ss)) t := by
  unfold joinD at h
  cases e : strsOf xs with
  | none => rw [e] at h; exact h.elim
  | some ss => rw [e] at h; exact ⟨ss, strsOf_some e, h.1, h.2⟩
theorem rd_join (_E : Ev X kk) (ha : RD M o ρ f) (hb : RD M e ρ g) (hs : starEach [e] X.env = [(false, eval e X.env)] := by rfl) (hbase : attributeBase o "join" X.env (eval o X.env) = eval o X.env := by rfl) (hline : (apos.endLine == pos.line) = true := by rfl) :
    RD M (.Call (.Attribute o "join" apos) [e] [] pos) ρ (joinW f g) := ⟨fun t P z => jd_of (pe_join peT peT hs hbase hline) fun σ G H S Q q => (ha.run t _ z) σ G H S _ fun G1 H1 v x t1 s1 d1 z1 => by
  cases x <;> first | exact z1.elim | skip
  rename_i a
  obtain rfl := d1.strE
  refine ⟨⟨a, rfl⟩, (hb.run t1 _ z1) σ G1 H1 (S.step s1) _ fun G2 H2 w y t2 s2 d2 z2 => ?_⟩
  cases y <;> first | exact z2.elim | skip
  · obtain ⟨ss, rfl, hl, p⟩ := joinD_of z2
    obtain ⟨l, vs, rfl, st, da⟩ := d2.lstE
    obtain rfl := da.strs
    exact ⟨a, l, ss, rfl, rfl, .inl (.inl (.inl (((S.step s1).step s2).ok.sub _ _ st))), hl, q G2 H2 _ _ t2 (s1.trans s2) (.str _) p⟩
  · obtain ⟨ss, rfl, hl, p⟩ := joinD_of z2
    obtain ⟨l, vs, rfl, st, da⟩ := d2.tupE
    obtain rfl := da.strs
    exact ⟨a, l, ss, rfl, rfl, .inr (sqt_up ((S.step s1).step s2).ok.sub st), hl, q G2 H2 _ _ t2 (s1.trans s2) (.str _) p⟩⟩
/-- {x} in an f-string -/
def ofmt : PyData → W PyData
  | .str y => need (y.length ≤ 16777216) (Dw.ret (.str y))
  | .int i => need (i.natAbs.log2 < 1920) (Dw.ret (.str (Str.ofString (toString i))))
  | _ => bad
theorem rd_fmt (ha : RD M e ρ f) : RD M (.FormattedValue e (-1) none pos) ρ (op1 ofmt f) := ⟨fun t P z => jd_of (pe_fmt peT) fun σ G H S Q q => (ha.run t _ z) σ G H S _ fun G1 H1 v x t1 s1 d1 z1 => by
  cases x <;> first | exact z1.elim | skip
  · rename_i i
    obtain rfl := d1.intE
    exact .inr ⟨i, rfl, z1.1, q G1 H1 _ _ t1 s1 (.str _) z1.2⟩
  · rename_i y
    obtain rfl := d1.strE
    exact .inl ⟨y, rfl, line_of z1.1, q G1 H1 _ _ t1 s1 (.str _) z1.2⟩⟩
def jsW : List (W PyData) → Str → W PyData
  | [], acc => Dw.ret (.str acc)
  | f :: r, acc => bnd f fun x => match x with
    | .str y => need ((acc ++ y).length ≤ 16777216) (jsW r (acc ++ y))
    | _ => bad
inductive RJ (M : Md X.KK Wo) (ρ : List B) : List Expr → List (W PyData) → Prop
  | nil : RJ M ρ [] []
  | cons {e : Expr} {f : W PyData} {es : List Expr} {fs : List (W PyData)} : RD M e ρ f → RJ M ρ es fs → RJ M ρ (e :: es) (f :: fs)
theorem RJ.pj {fs : List (W PyData)} (h : RJ M ρ es fs) : PJ X es (es.map (TeOf X)) := by
  induction h with
  | nil => exact .nil
  | cons _ _ ih => exact .cons peT ih
theorem RJ.run {fs : List (W PyData)} (h : RJ M ρ es fs) : ∀ (acc : Str) (t : Rs) (P : PyData → Rs → Prop), jsW fs acc t P → ∀ (σ : L2.St) (G H : Hp), Sat M t G H σ ρ → ∀ Q : Str → Hp → Prop,
    (∀ (G' H' : Hp) (u : Str) (t' : Rs), Stp M t' G H G' H' → P (.str u) t' → Q u H') → tJs (es.map (TeOf X)) acc σ H Q := by
  induction h with
  | nil => exact fun acc t P z σ G H S Q q => q G H acc t S.ok.refl z
  | cons he _ ih =>
    intro acc t P z σ G H S Q q
    refine (he.run t _ z) σ G H S _ fun G1 H1 v x t1 s1 d1 z1 => ?_
    cases x <;> first | exact z1.elim | skip
    rename_i y
    obtain rfl := d1.strE
    exact ⟨y, rfl, line_of z1.1, ih (acc ++ y) t1 P z1.2 σ G1 H1 (S.step s1) Q fun G2 H2 u t2 s2 p => q G2 H2 u t2 (s1.trans s2) p⟩
theorem rd_fstr {v1 v2 : Expr} {fs : List (W PyData)} (h : RJ M ρ (v1 :: v2 :: es) fs) : RD M (.JoinedStr (v1 :: v2 :: es) pos) ρ (jsW fs Str.empty) := ⟨fun t P z => jd_of (pe_joined h.pj) fun σ G H S Q q =>
  h.run Str.empty t P z σ G H S _ fun G1 H1 u t1 s1 p => q G1 H1 _ _ t1 s1 (.str u) p⟩
/-- texts that are the same -/
def eqSW (f g : W PyData) : W PyData := bnd f fun x => match x with
  | .str y => bnd g fun z => match z with
    | .str u => Dw.ret (.bool (decide (y = u)))
    | _ => bad
  | _ => bad
theorem rd_eqS (ha : RD M a ρ f) (hb : RD M b ρ g) : RD M (.Compare a [.Eq] [b] pos) ρ (eqSW f g) := ⟨fun t P z => jd_cmp op_eq (nomark _) ((ha.run t _ z).imp fun x t1 z1 => by
  cases x <;> first | exact z1.elim | skip
  rename_i y
  refine (hb.run t1 _ z1).imp fun z t2 z2 => ?_
  cases z <;> first | exact z2.elim | skip
  rename_i u
  intro G H v w k hv hw Q r
  rw [hv.strE, hw.strE]
  have e3 : (decide (V.str y = V.str u)) = decide (y = u) := by
    by_cases hy : y = u
    · rw [decide_eq_true hy, decide_eq_true (by rw [hy])]
    · rw [decide_eq_false hy, decide_eq_false (fun z => hy (V.str.inj z))]
  exact ⟨rfl, by rw [e3]; exact keep k r (.bl _) z2⟩)⟩
/-! ### lists of slots -/
def popW {α : Type} (xs : List PyData) (k : List PyData → PyData → W α) : W α := match xs.getLast? with
  | some y => k xs.dropLast y
  | none => bad
theorem rs_popTo {gt : TG} {k : List PyData → PyData → W (Out τ σ)} (i : Nat) (hg : PG X tg gt) (hk : ∀ ys y, RG (M := M) gt (ρ.set i (.own ys)) y rest emb emc (k ys y)) (hr : ρ[i]? = some (.own xs) := by rfl)
    (hN : X.N[i]? = some x := by rfl) (hv : Vis X.env.scope x := by first | exact Or.inl rfl | exact Or.inr (Or.inl rfl) | exact Or.inr (Or.inr rfl)) (hd : (x == ("__debug__" : Str)) = false := by decide) (hcd : (x == ("__classdict__" : Str)) = false := by decide)
    (hs : swapsWithSole [tg] (.Call (.Attribute (.Name x p) "pop" apos) [] [] cpos) pos.line X.env = pure false := by rfl) (hw : swappedStores [tg] (.Call (.Attribute (.Name x p) "pop" apos) [] [] cpos) X.env = pure none := by rfl)
    (ha : (assignEach [tg] X.env).map (·.2) = [assign tg X.env] := by rfl)
    (h1 : attributeBase (.Name x p) "pop" X.env (eval (.Name x p) X.env) = eval (.Name x p) X.env := by rfl) (h4 : (apos.endLine == cpos.line) = true := by rfl) : RS M (.Assign [tg] (.Call (.Attribute (.Name x p) "pop" apos) [] [] cpos) pos :: rest) ρ emb emc (popW xs k) := ⟨fun t P D z n => by
  unfold popW at z
  cases e : xs.getLast? with
  | none => rw [e] at z; exact z.elim
  | some y =>
    rw [e] at z
    have ex : xs.dropLast ++ [y] = xs := by
      rcases List.eq_nil_or_concat xs with h | ⟨l, b, h⟩
      · subst h
        cases e
      · subst h
        simp at e ⊢
        exact e.symm
    exact jss_cons (js_popTo i (xs := xs.dropLast) (y := y) (by rw [hr, ex]) hg ((hk xs.dropLast y).run t P D z n) hN hv hd hcd hs hw ha h1 h4)⟩
def popAtW {α : Type} (xs : List PyData) (y : PyData) (k : List PyData → W α) : W α := match y with
  | .int j => match seqIndex? j xs.length with
    | some n => need (-(2 ^ 63) ≤ j ∧ j < 2 ^ 63 ∧ n < xs.length) (k (xs.eraseIdx n))
    | none => bad
  | _ => bad
theorem rs_popAt {k : List PyData → W (Out τ σ)} (i : Nat) (he : RD M e ρ f) (hk : ∀ ys, RS M rest (ρ.set i (.own ys)) emb emc (k ys)) (hr : ρ[i]? = some (.own xs) := by rfl)
    (hN : X.N[i]? = some x := by rfl) (hv : Vis X.env.scope x := by first | exact Or.inl rfl | exact Or.inr (Or.inl rfl) | exact Or.inr (Or.inr rfl)) (hd : (x == ("__debug__" : Str)) = false := by decide) (hcd : (x == ("__classdict__" : Str)) = false := by decide)
    (hs : swapsWith (.Call (.Attribute (.Name x p) "pop" apos) [e] [] cpos) none pos.line X.env = pure false := by rfl) (h3 : starEach [e] X.env = (false, eval e X.env) :: starEach [] X.env := by rfl)
    (h1 : attributeBase (.Name x p) "pop" X.env (eval (.Name x p) X.env) = eval (.Name x p) X.env := by rfl)
    (h2 : ((((backTo cpos (starEach [e] X.env)).all fun x => !x.1) && (backToKw cpos (keywordEach [] X.env)).all fun x => x.1.isSome) && decide (([e].length + ([] : List Keyword).length + if ([] : List Keyword).isEmpty = true then 0 else 1) < 30)) = true := by rfl)
    (h4 : (apos.endLine == cpos.line) = true := by rfl) (h5 : ((backTo cpos (starEach [] X.env)).any fun x => x.1) = false := by rfl) : RS M (.Expr (.Call (.Attribute (.Name x p) "pop" apos) [e] [] cpos) pos :: rest) ρ emb emc (bnd f fun y => popAtW xs y k) := ⟨fun t P D z n =>
  jss_cons (js_popAt i hr ((he.run t _ z).imp fun y t1 z1 => by
    cases y <;> first | exact z1.elim | skip
    rename_i j
    have z2 : (match seqIndex? j xs.length with | some n => need (-(2 ^ 63) ≤ j ∧ j < 2 ^ 63 ∧ n < xs.length) (k (xs.eraseIdx n)) | none => bad) t1 P := z1
    cases ej : seqIndex? j xs.length with
    | none => rw [ej] at z2; exact z2.elim
    | some m =>
      rw [ej] at z2
      obtain ⟨⟨b1, b2, b3⟩, w⟩ := z2
      exact ⟨j, m, xs[m], rfl, b1, b2, ej, List.getElem?_eq_getElem b3, (hk _).run t1 P D w n⟩) hN hv hd hcd hs h3 h1 h2 h4 h5)⟩
/-- x, y = e, a new list -/
theorem rs_parL (i j : Nat) {px py pt pt2 : Pos} {kt ku : Nat} {k : PyData → List PyData → W (Out τ σ)} (E : Ev X kk) (hN : X.N.Nodup) (ha : RD M a ρ f) (hb : RL M b ρ lf) (hk : ∀ u v, RS M rest ((ρ.set i (.d u)).set j (.own v)) emb emc (k u v)) (hij : i ≠ j := by decide)
    (hw : swappedStores [.Tuple [.Name x px, .Name y py] kt pt] (.Tuple [a, b] ku pt2) X.env = pure (some [x, y]) := by rfl)
    (hi : X.N[i]? = some x := by rfl) (hj : X.N[j]? = some y := by rfl) (hx : X.env.scope.names.lookup x = some .local := by rfl) (hy : X.env.scope.names.lookup y = some .local := by rfl)
    (hs : swapsWithSole [.Tuple [.Name x px, .Name y py] kt pt] (.Tuple [a, b] ku pt2) pos.line X.env = pure false := by rfl)
    (h3 : starEach [a, b] X.env = (false, eval a X.env) :: starEach [b] X.env := by rfl) (h4 : starEach [b] X.env = (false, eval b X.env) :: starEach [] X.env := by rfl) :
    RS M (.Assign [.Tuple [.Name x px, .Name y py] kt pt] (.Tuple [a, b] ku pt2) pos :: rest) ρ emb emc (bnd f fun u => bnd lf fun v => k u v) := ⟨fun t P D z w =>
  jss_cons (js_of (ps_par E.calm hN hi hj hij hx hy (pa_cons peT (pa_cons peT pa_nil h4) h3) hw hs) fun σ G H S E' F =>
    (ha.run t _ z) σ G H S _ fun G1 H1 v x t1 s1 d1 z1 => (hb.run t1 _ z1) σ G1 H1 (S.step s1) _ fun G2 H2 l ws xs t2 s2 n g e da z2 =>
      ⟨v, .ref l, rfl, F.nx _ G2 H2 _ t2 ((((S.step s1).step s2).set (De.up s2.gg _ _ d1)).setL (S.ne_r (fresh_of s1 n)) g e (fresh_of S.st (fresh_of s1 n)) da fun j' ys ne e' => by
        by_cases hji : i = j'
        · subst hji
          have hl : i < ρ.length := by
            by_cases q : i < ρ.length
            · exact q
            · rw [List.getElem?_eq_none (by rw [List.length_set]; omega)] at e'
              cases e'
          rw [List.getElem?_set_self hl] at e'
          cases e'
        · rw [List.getElem?_set_ne hji] at e' ⊢
          exact (S.step s1).fresh n e') (s1.trans s2).gg ((hk _ _).run t2 P D z2 w)⟩)⟩
end
end Dz
end
section
set_option maxRecDepth 100000
set_option maxHeartbeats 4000000
namespace Dz
open PySem PySem.Spec PyProof.Rows L2 Dl Dw
section
variable {X : Cx} {Wo : WO} {M : Md X.KK Wo} {ρ : List B} {e a b o tg : Expr} {es : List Expr} {f g : W PyData} {lf : W (List PyData)} {kk : Nat} {pos cpos apos p q : Pos} {x y : Str} {τ σ : Type} {emb : τ → List B} {emc : σ → List B} {rest : List Stmt} {xs : List PyData}
/-- x, y = a new list, e -/
theorem rs_parLD (i j : Nat) {px py pt pt2 : Pos} {kt ku : Nat} {k : List PyData → PyData → W (Out τ σ)} (E : Ev X kk) (hN : X.N.Nodup) (ha : RL M a ρ lf) (hb : RD M b ρ g) (hk : ∀ u v, RS M rest ((ρ.set i (.own u)).set j (.d v)) emb emc (k u v)) (hij : i ≠ j := by decide)
    (hw : swappedStores [.Tuple [.Name x px, .Name y py] kt pt] (.Tuple [a, b] ku pt2) X.env = pure (some [x, y]) := by rfl)
    (hi : X.N[i]? = some x := by rfl) (hj : X.N[j]? = some y := by rfl) (hx : X.env.scope.names.lookup x = some .local := by rfl) (hy : X.env.scope.names.lookup y = some .local := by rfl)
    (hs : swapsWithSole [.Tuple [.Name x px, .Name y py] kt pt] (.Tuple [a, b] ku pt2) pos.line X.env = pure false := by rfl)
    (h3 : starEach [a, b] X.env = (false, eval a X.env) :: starEach [b] X.env := by rfl) (h4 : starEach [b] X.env = (false, eval b X.env) :: starEach [] X.env := by rfl) :
    RS M (.Assign [.Tuple [.Name x px, .Name y py] kt pt] (.Tuple [a, b] ku pt2) pos :: rest) ρ emb emc (bnd lf fun u => bnd g fun v => k u v) := ⟨fun t P D z w =>
  jss_cons (js_of (ps_par E.calm hN hi hj hij hx hy (pa_cons peT (pa_cons peT pa_nil h4) h3) hw hs) fun σ G H S E' F =>
    (ha.run t _ z) σ G H S _ fun G1 H1 l ws xs t1 s1 n g e da z1 => (hb.run t1 _ z1) σ G1 H1 (S.step s1) _ fun G2 H2 v x t2 s2 d2 z2 => by
      have hlr : l ≠ M.r := S.ne_r n
      have S1 := (S.step s1).setL (i := i) hlr g e (fresh_of S.st n) da fun j' ys ne e' => S.fresh n (by exact e') |> fun h => h
      have S2 := (S1.step s2).set (i := j) d2
      exact ⟨.ref l, v, rfl, F.nx _ G2 H2 _ t2 S2 (s1.trans s2).gg ((hk _ _).run t2 P D z2 w)⟩)⟩
/-! ### tuple(text), tuple(range) -/
theorem cr_tupStr (hc : X.calm = true) : CallR X (.type "tuple") (fun vs H Q => ∃ z : Str, vs = [.str z] ∧ z.length ≤ 16777216 ∧ ∀ p, H p = none → Q (.ref p) (upd H p (.tup (z.cps.toList.map fun c => V.str ⟨#[c]⟩)))) := by
  intro pins s σ H vs us Q I r h
  obtain ⟨z, rfl, hl, q⟩ := h
  cases r with
  | cons r1 r2 =>
    cases r2
    obtain ⟨t, rfl⟩ := r1
    refine call_tuple_str (I.ok.hd hc) z t (fun h' tk acc hk hi => ?_) (by rw [sizeLine_eq]; exact hl)
    have I1 : Inv X pins σ H { s with heap := h', toks := tk } := I.kept hk
    have hv : Vals (z.cps.toList.map fun c => V.str ⟨#[c]⟩) acc.toList := by
      have hz : acc.toList.length = z.cps.toList.length := by rw [Array.length_toList, Array.length_toList]; exact hi.1
      have e1 : (z.cps.toList.map fun c => V.str ⟨#[c]⟩) = (List.range acc.toList.length).map fun j => V.str ⟨#[z.cps.toList.getD j 0]⟩ := by
        rw [hz]
        refine List.ext_getElem (by simp) fun n h1 h2 => ?_
        have hn : n < z.cps.toList.length := by simpa using h1
        simp only [List.getElem_map, List.getElem_range, List.getD, List.getElem?_eq_getElem hn, Option.getD_some]
      rw [e1]
      refine vals_of_get acc.toList _ fun j u hj => ?_
      obtain ⟨c, tk', hc, rfl⟩ := hi.2 j u (by rw [← hj, Array.getElem?_toList])
      refine ⟨tk', ?_⟩
      have : z.cps.toList[j]? = some c := by rw [Array.getElem?_toList]; exact hc
      simp only [List.getD, this, Option.getD_some]
    have I2 : Inv X pins σ (upd H h'.objs.size (.tup (z.cps.toList.map fun c => V.str ⟨#[c]⟩))) { s with heap := h'.push { cls := .type "tuple", data := .seq acc }, toks := tk } :=
      I1.laid (t' := tk) (fun b o e => Heap.get?_push_of_some _ e) (Nat.le_refl _) (show ObjOk X.prog X.w _ _ _ (.tup _) from ⟨by rw [List.length_map, sizeLine_eq]; exact hl, acc.toList, hv, IsTup.new _ _⟩)
    exact ⟨.ref h'.objs.size, _, I2, rfl, q _ (I1.hok.fresh (Nat.le_refl _))⟩
def otupS : PyData → W PyData
  | .str z => need (z.length ≤ 16777216) (Dw.ret (.tuple (sgnD z)))
  | _ => bad
theorem sgn_all {K : KK} {G : Hp} (z : Str) : DeAll K G (z.cps.toList.map fun c => V.str ⟨#[c]⟩) (sgnD z) := by
  unfold sgnD
  generalize z.cps.toList = l
  induction l with
  | nil => exact .nil
  | cons c l ih => exact .cons (.str _) ih
theorem rd_tupS (E : Ev X kk) (ha : RD M a ρ f) (hs : starEach [a] X.env = (false, eval a X.env) :: starEach [] X.env := by rfl) (hg : Gl X (Str.ofString "tuple") := by rfl) : RD M (.Call (.Name (Str.ofString "tuple") p) [a] [] pos) ρ (op1 otupS f) := ⟨fun t P z =>
  jd_callTy (cr_tupStr E.calm) hg E.bu.tuple boot_tuple' (ja_one (ha.run t _ z) (fun x t1 z1 => by
    cases x <;> first | exact z1.elim | skip
    rename_i y
    intro G H vs k ar Q q
    obtain ⟨v, rfl, d⟩ := arg1 ar
    refine ⟨y, by rw [d.strE], z1.1, fun p hp => ?_⟩
    have st := k.lay (o := .tup (y.cps.toList.map fun c => V.str ⟨#[c]⟩)) hp
    exact q _ _ _ _ _ st (.tup (.inl (.inl upd_same)) (sgn_all y)) z1.2) hs) (by decide) (by decide) hs rfl⟩
def tupRngW (f g : W PyData) : W PyData := bnd f fun x => match x with
  | .int i => bnd g fun y => match y with
    | .int j => need (RgOk i j) (Dw.ret (.tuple (rngD i (j - i).toNat)))
    | _ => bad
  | _ => bad
theorem rg_all {K : KK} {G : Hp} (i j : Int) : DeAll K G (rgV i j) (rngD i (j - i).toNat) := by
  unfold rgV rngD
  generalize List.range (j - i).toNat = l
  induction l with
  | nil => exact .nil
  | cons c l ih => exact .cons (.int _) ih
theorem rd_tupRng2 {p2 pos2 : Pos} (E : Ev X kk) (ha : RD M a ρ f) (hb : RD M b ρ g) (hg : Gl X "tuple" := by rfl) (hg2 : Gl X "range" := by rfl) (na : starEach [a, b] X.env = (false, eval a X.env) :: starEach [b] X.env := by rfl)
    (nb : starEach [b] X.env = (false, eval b X.env) :: starEach [] X.env := by rfl) (hp : (backTo pos2 (starEach [b] X.env)).any (·.1) = false := by rfl)
    (nc : starEach [.Call (.Name "range" p2) [a, b] [] pos2] X.env = (false, eval (.Call (.Name "range" p2) [a, b] [] pos2) X.env) :: starEach [] X.env := by rfl) :
    RD M (.Call (.Name "tuple" p) [.Call (.Name "range" p2) [a, b] [] pos2] [] pos) ρ (tupRngW f g) := ⟨fun t P z => jd_of (pe_tupRg E.calm hg E.bu.tuple (prg_2 hg2 E.bu.range peT peT na nb hp) nc) fun σ G H S Q q => (ha.run t _ z) σ G H S _ fun G1 H1 v x t1 s1 d1 z1 => by
  cases x <;> first | exact z1.elim | skip
  rename_i i
  obtain rfl := d1.intE
  refine (hb.run t1 _ z1) σ G1 H1 (S.step s1) _ fun G2 H2 w y t2 s2 d2 z2 => ?_
  cases y <;> first | exact z2.elim | skip
  rename_i j
  obtain rfl := d2.intE
  refine ⟨i, j, rfl, rfl, z2.1, fun p hp => ?_⟩
  have st := ((S.step s1).step s2).ok.lay (o := .tup (rgV i j)) hp
  exact q _ _ _ _ _ ((s1.trans s2).trans st) (.tup (.inl (.inl upd_same)) (rg_all i j)) z2.2⟩
end
/-! ### enumerate(tuple) -/
theorem meets_enumerate_newT (l : Addr) (items : Array Value) (n : Nat) (dct : Option Addr) (sl : Array (Option Value)) :
    Meets (Builtin.«enumerate.__new__» ⟨[.type "enumerate", .ref l], []⟩) (fun _ R s => s.heap.get? l = some { cls := .type "tuple", dict := dct, data := .seq items n, slots := sl } ∧
      R (.ok (.ret (.ref (s.heap.push { cls := .type "tuple_iterator", data := .fields #[.ref l, .int 0 0] }).objs.size)))
        { s with heap := (s.heap.push { cls := .type "tuple_iterator", data := .fields #[.ref l, .int 0 0] }).push { cls := .type "enumerate", data := .fields #[.none, .bool false, .ref s.heap.objs.size, rawInt 0, .none, .none] } }) :=
  .of_wp fun prog w A R s h => by
    obtain ⟨hp, g, d, tk, os⟩ := s; obtain ⟨hl, h⟩ := h
    have hsub := sub_enumerate
    have hL : Heap.IsTuple (Shared.heap ⟨hp, g, d, tk, os⟩) l items := ⟨_, hl, rfl, n, rfl⟩
    wp_walk using AutoSeq1.wpAny_loadPart' hl
    refine wpAny_stack_any fun st => wpAny_pure ?_
    split
    · rename_i c _ _ _ _ _
      cases (c == Value.type "enumerate")
      · wp_walk using AutoSeq1.wpAny_loadPart' hl, wpAny_pyIter_tuple hL
        exact ⟨_, rfl, h⟩
      · wp_walk using AutoSeq1.wpAny_loadPart' hl, wpAny_pyIter_tuple hL
        exact ⟨_, rfl, h⟩
    · wp_walk using AutoSeq1.wpAny_loadPart' hl, wpAny_pyIter_tuple hL
      exact ⟨_, rfl, h⟩
section
variable {prog : Program} {w : World} {A : Around} {E : Value → Shared → Prop} {s : Shared}
theorem call_enumerate_tup {l : Addr} {items : Array Value} {Q : Value → Shared → Prop} (hL : s.heap.IsTuple l items)
    (hwish : ∀ h', IsEnum h' (s.heap.objs.size + 1) s.heap.objs.size 0 .none → h'.IsTupleIter s.heap.objs.size l 0 → h'.objs.size = s.heap.objs.size + 2 → (∀ b o, s.heap.get? b = some o → h'.get? b = some o) → Q (.ref (s.heap.objs.size + 1)) { s with heap := h' }) :
    wpAny (model prog w) A (call (.type "enumerate") [.ref l]) Q E s := by
  obtain ⟨⟨c, dct, dt, sl⟩, hl, hc, n, hd⟩ := hL
  obtain rfl : c = .type "tuple" := hc
  obtain rfl : dt = .seq items n := hd
  refine callType_new F.called_enumerate (by decide) (F.typeCall_enumerate_1 _) (F.newCall_enumerate_1 _) (fun obj => F.args_object_init_2 obj _) F.entry_enumerate_new (meets_enumerate_newT l items n dct sl) ⟨hl, ?_⟩
  generalize e1 : s.heap.push { cls := .type "tuple_iterator", data := .fields #[.ref l, .int 0 0] } = g1
  have hz : g1.objs.size = s.heap.objs.size + 1 := by rw [← e1]; exact Heap.size_push ..
  have it1 : g1.get? s.heap.objs.size = some { cls := .type "tuple_iterator", data := .fields #[.ref l, .int 0 0] } := by rw [← e1]; exact Heap.get?_push_size _ rfl
  have k1 : ∀ b o, s.heap.get? b = some o → g1.get? b = some o := fun b o x => by rw [← e1]; exact Heap.get?_push_of_some _ x
  show _ ∧ _
  rw [hz]
  have he : IsEnum (g1.push { cls := .type "enumerate", data := .fields #[.none, .bool false, .ref s.heap.objs.size, rawInt 0, .none, .none] }) (s.heap.objs.size + 1) s.heap.objs.size 0 .none := by
    rw [← hz]
    exact Heap.get?_push_size _ rfl
  exact ⟨⟨_, he, rfl⟩, hwish _ he ⟨_, Heap.get?_push_of_some _ it1, rfl, rfl⟩ (by rw [Heap.size_push, hz]) fun b o x => Heap.get?_push_of_some _ (k1 b o x)⟩
end
/-- the tuple at a, each item in a new pair -/
def Itu (K : PySem.W.Frag) (a : Addr) (xs : List V) : It :=
  ⟨fun i H => SqT K H a xs ∧ ∃ x : V, xs[i]? = some x, fun i H v H' => ∃ T x, v = .ref T ∧ H T = none ∧ H' = upd H T (.tup [.int (i : Nat), x]) ∧ xs[i]? = some x, fun i H => SqT K H a xs ∧ xs.length ≤ i⟩
theorem turn_enumT {P : Program} {w : World} {K : PySem.W.Frag} {elts : List Expr} {kk : Nat} {tpos : Pos} (a e it : Addr) (xs : List V) :
    Turn P w K (.Tuple elts kk tpos) (Itu K a xs) [e, it] e (fun i h => (∃ old, IsEnum h e it ((i : Nat) : Int) old) ∧ h.IsTupleIter it a i ∧ e ≠ it) where
  mem := by simp
  obj := fun i h st b hb => by
    obtain ⟨⟨old, he⟩, ⟨o, ho, hc, hd⟩, _⟩ := st
    have e' : b = e ∨ b = it := by simpa using hb
    rcases e' with z | z
    · subst z
      exact ⟨_, he, fun v q => nomatch q⟩
    · subst z
      exact ⟨o, ho, fun v q => by rw [hd] at q; cases q⟩
  keep := fun i h h' st k => let ⟨⟨old, he⟩, hi, hne⟩ := st; ⟨⟨old, k e (by simp) _ he⟩, hi.at fun o q => k it (by simp) o q, hne⟩
  item := by
    intro X hP hw hK hc i pins s σ H E I hf st hg
    subst hP hw hK
    obtain ⟨⟨old, he⟩, hit, hne⟩ := st
    obtain ⟨hq, x, hx⟩ := hg
    obtain ⟨its, rv, p, hz⟩ := I.tuple hq
    have hil : i < its.toArray.size := by
      have := (List.getElem?_eq_some_iff.mp hx).1
      rw [List.size_toArray, ← rv.length]
      exact this
    obtain ⟨ot, hot, hct, _⟩ := id p
    obtain ⟨oi, hoi, hci, _⟩ := id hit
    have nai : a ≠ it := fun z => by
      subst z
      rw [hot] at hoi
      cases hoi
      rw [hct] at hci
      exact absurd (Value.type.inj hci) (by decide)
    have nae : e ≠ a := fun z => by
      subst z
      have he2 : s.heap.get? e = _ := he
      rw [hot] at he2
      cases he2
      exact absurd (Value.type.inj hct) (by decide)
    have hel : e < s.heap.objs.size := Heap.lt_size he
    have hitl : it < s.heap.objs.size := Heap.lt_size hoi
    refine wpAny_pyNext_enum_itemD (Draws.tuple (A := X.A.in1) (I.ok.hd hc) it a nai its.toArray) he ⟨hit, p⟩ hil hne (by simp [hne, nae]) fun u h' tk hu ho hst hT hsz hk => ?_
    obtain ⟨hit', _⟩ := hst
    have ru : RelV x u := by
      obtain ⟨u', hu', ru⟩ := rv.get hx
      have : its.toArray[i]? = some u := hu
      rw [List.getElem?_toArray, hu'] at this
      cases this
      exact ru
    refine ⟨_, rfl, wpAny_letOwnedTupleGo_enum (s := { s with heap := h', toks := tk + 1 }) ho fun h'' he' sb => ?_⟩
    have hT2 : h''.get? s.heap.objs.size = some { cls := .type "tuple", data := .seq #[.int i tk, u] } := (sb.2 _ (Nat.ne_of_gt hel)).trans hT
    have new : ObjOk X.prog X.w (upd H s.heap.objs.size (.tup [.int (i : Nat), x])) h'' s.heap.objs.size (.tup [.int (i : Nat), x]) :=
      ⟨by show 2 ≤ sizeLine; decide, [.int i tk, u], .cons ⟨_, rfl⟩ (.cons ru .nil), ⟨_, hT2, rfl, _, rfl⟩⟩
    have I1 : Inv X pins σ (upd H s.heap.objs.size (.tup [.int (i : Nat), x])) { s with heap := h'', toks := tk + 1 } :=
      I.turnedNew (ch := [e, it]) (fun b ob hb q => (sb.2 b (fun z => hb (by simp [z]))).trans (hk b ob (fun z => hb (by simp [z])) (fun z => hb (by simp [z])) q)) hf (Nat.le_refl _) new
    refine ⟨.ref s.heap.objs.size, _, I1, rfl, ⟨_, x, rfl, I.hok.fresh (Nat.le_refl _), rfl, hx⟩, ⟨⟨u, ?_⟩, hit'.at fun o q => (sb.2 it (Ne.symm hne)).trans q, hne⟩, fun b hb => ?_⟩
    · have e1 : ((i + 1 : Nat) : Int) = (i : Int) + 1 := by omega
      rw [e1]
      exact he'
    · have hb' : b < s.heap.objs.size := by
        have e' : b = e ∨ b = it := by simpa using hb
        rcases e' with z | z <;> (subst z; assumption)
      rw [upd_ne (Nat.ne_of_lt hb')]
      exact (hf b hb).1
  done := by
    intro X hP hw hK hc i pins s σ H E I hf st hg
    subst hP hw hK
    obtain ⟨⟨old, he⟩, hit, hne⟩ := st
    obtain ⟨hq, hx⟩ := hg
    obtain ⟨its, rv, p, hz⟩ := I.tuple hq
    obtain ⟨ot, hot, hct, _⟩ := id p
    obtain ⟨oi, hoi, hci, _⟩ := id hit
    have nai : a ≠ it := fun z => by
      subst z
      rw [hot] at hoi
      cases hoi
      rw [hct] at hci
      exact absurd (Value.type.inj hci) (by decide)
    obtain ⟨f0, f1, f2, f3, f4, f5⟩ := hf it (by simp)
    have hn : its.toArray[i]? = none := by
      rw [List.getElem?_toArray]
      exact List.getElem?_eq_none (by rw [← rv.length]; exact hx)
    have D : Draws X.prog X.w X.A.in1 it [it, a] i (fun _ _ => True) (fun j h => j = i ∧ h.IsTupleIter it a i ∧ h.IsTuple a its.toArray) :=
      { live := fun _ _ st => let ⟨o, ho, _⟩ := st.2.1; ⟨o, ho⟩
        frame := fun _ _ _ st hk => ⟨st.1, st.2.1.at fun o e => hk it (by simp) o e, st.2.2.at fun o e => hk a (by simp) o e⟩
        item := fun j s Q E hj st _ => absurd st.1 (Nat.ne_of_lt hj)
        done := fun s Q E st hE => RZ.nextOf_tuple_end (I.ok.hd hc) st.2.1 st.2.2 hn fun h' e hs he => hE h' e (fun b o nb x => hs b o nb x) he }
    refine wpAny_pyNext_enum_endD D he ⟨rfl, hit, p⟩ fun h' eb => ⟨rfl, I.turned (t' := s.toks) (fun b o hb q => eb b o hb q) f0 f1 f3 f4 f5⟩
  self := fun A i s Q E st h => let ⟨⟨_, he⟩, _⟩ := st; wpAny_pyIter_enum he h
def iEnumT (K : PySem.W.Frag) (ta : TA) : TI := fun σ H R => ta σ H fun vs H1 => ∃ a xs, vs = [.ref a] ∧ SqT K H1 a xs ∧ R (Itu K a xs) H1
theorem pi_enumT {X : Cx} {e : Expr} {ta : TA} {p pos tpos : Pos} {elts : List Expr} {kk : Nat} (hg : Gl X "enumerate") (hm : X.mg "enumerate" = none) (ha : PA X [e] ta) (hs : starEach [e] X.env = [(false, eval e X.env)] := by rfl) :
    PI X (.Tuple elts kk tpos) (.Call (.Name "enumerate" p) [e] [] pos) (iEnumT X.KK ta) := by
  refine ⟨fun pins s σ H R I h => ?_⟩
  refine Call_ (ld_blt I hg hm boot_enumerate (PyProof.Rows.callWith_type1 (thn (ha.run pos pins s σ H _ I h) fun us s1 ⟨vs, H1, I1, r1, q1⟩ => ?_) hs rfl))
  obtain ⟨a, xs, ex, hq, q⟩ := q1
  subst ex
  cases r1 with
  | cons r rr =>
    cases rr
    cases r
    obtain ⟨its, rv, p', hz⟩ := I1.tuple hq
    refine call_enumerate_tup p' fun h' he hit hsz hk => wpAny_pyIter_enum he ?_
    have I2 : Inv X pins σ H1 { s1 with heap := h' } := I1.kept (t' := s1.toks) hk
    refine ⟨s1.heap.objs.size + 1, [s1.heap.objs.size + 1, s1.heap.objs.size], _, _, H1, rfl, I2, turn_enumT a (s1.heap.objs.size + 1) s1.heap.objs.size xs, ⟨⟨.none, he⟩, hit, Nat.succ_ne_self _⟩, fun b hb => ?_, q⟩
    have e' : b = s1.heap.objs.size + 1 ∨ b = s1.heap.objs.size := by simpa using hb
    have hle : s1.heap.objs.size ≤ b := by
      rcases e' with z | z
      · rw [z]; exact Nat.le_add_right _ _
      · rw [z]; exact Nat.le_refl _
    exact I1.fpOk hle (I1.hok.fresh hle)
def enumD (xs : List PyData) : List PyData := (List.range xs.length).map fun i => .tuple [.int (i : Nat), xs.getD i .none]
theorem wk_enum {K : KK} {Wo : WO} {M : Md K Wo} {G0 : Hp} {a : Addr} {vs : List V} {xs : List PyData} (h : SqT K G0 a vs) (d : DeAll K G0 vs xs) : Wk M G0 (Itu K a vs) (enumD xs) := by
  have len : (enumD xs).length = vs.length := by simp [enumD, d.length]
  refine ⟨fun i t G H e k hi => ⟨sqt_up (e.trans k.sub) h, by omega⟩, fun i t G H e k hi => ⟨sqt_up (e.trans k.sub) h, vs[i]'(by omega), List.getElem?_eq_getElem _⟩, fun i t G H x H' e k y hi => ?_⟩
  obtain ⟨T, u, rfl, hT, rfl, hu⟩ := y
  have hi2 : i < vs.length := by omega
  obtain ⟨z, ez, dz⟩ := d.ofV hu
  have st := k.lay (o := .tup [.int (i : Nat), u]) hT
  refine ⟨_, .tuple [.int (i : Nat), z], st, ?_, .tup (.inl (.inl upd_same)) (.cons (.int _) (.cons (De.up (e.trans st.gg) _ _ dz) .nil))⟩
  have hi3 : i < xs.length := by rw [← d.length]; exact hi2
  have ez2 : xs[i] = z := by rw [List.getElem?_eq_getElem hi3] at ez; exact Option.some.inj ez
  simp [enumD, hi3, List.getD, ez2]
def enumW (f : W PyData) : W (List PyData) := bnd f fun x => match x with
  | .tuple xs => Dw.ret (enumD xs)
  | _ => bad
section
variable {X : Cx} {Wo : WO} {M : Md X.KK Wo} {ρ : List B} {e : Expr} {f : W PyData} {kn : Nat} {pos p tpos : Pos} {elts : List Expr} {kk : Nat}
theorem ri_enumT (E : Ev X kn) (ha : RD M e ρ f) (hg : Gl X "enumerate" := by rfl) (hs : starEach [e] X.env = (false, eval e X.env) :: starEach [] X.env := by rfl) (hs2 : starEach [e] X.env = [(false, eval e X.env)] := by rfl) :
    RI M (.Tuple elts kk tpos) (.Call (.Name "enumerate" p) [e] [] pos) ρ (enumW f) := ⟨fun t P z σ G H S R r =>
  TiOf.of (pi_enumT hg E.bu.enum (pa_cons peT pa_nil hs) hs2) ((ha.run t _ z) σ G H S _ fun G1 H1 v x t1 s1 d1 z1 => by
    cases x <;> first | exact z1.elim | skip
    rename_i xs
    obtain ⟨a, ws, rfl, st, da⟩ := d1.tupE
    exact ⟨a, ws, rfl, sqt_up (S.step s1).ok.sub st, r G1 H1 _ _ t1 s1 (wk_enum st da) z1⟩)⟩
end
/-! ### xs.extend(e) -/
def extV {τ σ : Type} (f : W PyData) (xs : List PyData) (k : List PyData → W (Out τ σ)) : W (Out τ σ) := bnd f fun y => match y with
  | .list ys => need (xs.length + ys.length ≤ 16777216) (k ys)
  | _ => bad
section
variable {X : Cx} {Wo : WO} {M : Md X.KK Wo} {ρ : List B} {e : Expr} {f : W PyData} {pos cpos apos p : Pos} {x : Str} {τ σ : Type} {emb : τ → List B} {emc : σ → List B} {rest : List Stmt} {xs : List PyData}
theorem rs_ext {k : List PyData → W (Out τ σ)} (i : Nat) (ha : RD M e ρ f) (hk : ∀ ys, RS M rest (ρ.set i (.own (xs ++ ys))) emb emc (k ys)) (hr : ρ[i]? = some (.own xs) := by rfl)
    (hN : X.N[i]? = some x := by rfl) (hv : Vis X.env.scope x := by first | exact Or.inl rfl | exact Or.inr (Or.inl rfl) | exact Or.inr (Or.inr rfl)) (hd : (x == ("__debug__" : Str)) = false := by decide) (hcd : (x == ("__classdict__" : Str)) = false := by decide)
    (hs : swapsWith (.Call (.Attribute (.Name x p) "extend" apos) [e] [] cpos) none pos.line X.env = pure false := by rfl) (h3 : starEach [e] X.env = (false, eval e X.env) :: starEach [] X.env := by rfl)
    (h1 : attributeBase (.Name x p) "extend" X.env (eval (.Name x p) X.env) = eval (.Name x p) X.env := by rfl)
    (h2 : ((((backTo cpos (starEach [e] X.env)).all fun x => !x.1) && (backToKw cpos (keywordEach [] X.env)).all fun x => x.1.isSome) && decide (([e].length + ([] : List Keyword).length + if ([] : List Keyword).isEmpty = true then 0 else 1) < 30)) = true := by rfl)
    (h4 : (apos.endLine == cpos.line) = true := by rfl) (h5 : ((backTo cpos (starEach [] X.env)).any fun x => x.1) = false := by rfl) : RS M (.Expr (.Call (.Attribute (.Name x p) "extend" apos) [e] [] cpos) pos :: rest) ρ emb emc (extV f xs k) := ⟨fun t P D z n =>
  jss_cons (js_extend i hr ((ha.run t _ z).imp fun y t1 z1 => by
    cases y <;> first | exact z1.elim | skip
    rename_i ys
    exact ⟨ys, rfl, z1.1, (hk ys).run t1 P D z1.2 n⟩) hN hv hd hcd hs h3 h1 h2 h4 h5)⟩
end
section
variable {X : Cx} {Wo : WO} {M : Md X.KK Wo} {ρ : List B} {e a b tg : Expr} {es : List Expr} {f g : W PyData} {af : W (List B)} {lf : W (List PyData)} {kk : Nat} {pos st : Pos} {x y : Str} {τ σ : Type} {emb : τ → List B} {emc : σ → List B} {rest : List Stmt}
/-- a star in a display -/
theorem ra_star (he : RD M e ρ f) (hs : RA M es ρ af) (h : starEach (.Starred e st :: es) X.env = (true, eval e X.env) :: starEach es X.env := by rfl) : RA M (.Starred e st :: es) ρ (starD f af) := ⟨fun t P z => ja_star ((he.run t _ z).imp fun x t1 z1 => by
  cases x <;> first | exact z1.elim | skip
  · exact ⟨_, .inr rfl, hs.run t1 _ z1⟩
  · exact ⟨_, .inl rfl, hs.run t1 _ z1⟩) h⟩
/-- x, y = e, a new list; the names may be cells -/
theorem rs_parLg (i j : Nat) {pt2 : Pos} {ku : Nat} {k : PyData → List PyData → W (Out τ σ)} (hg : PG X tg (gTup X.KK 2 (gCons (gName i) (gCons (gName j) gNil)))) (ha : RD M a ρ f) (hb : RL M b ρ lf) (hk : ∀ u v, RS M rest ((ρ.set i (.d u)).set j (.own v)) emb emc (k u v)) (hij : i ≠ j := by decide)
    (hs : swapsWithSole [tg] (.Tuple [a, b] ku pt2) pos.line X.env = pure false := by rfl) (hw : swappedStores [tg] (.Tuple [a, b] ku pt2) X.env = pure none := by rfl) (h1 : (assignEach [tg] X.env).map (·.2) = [assign tg X.env] := by rfl)
    (h3 : starEach [a, b] X.env = (false, eval a X.env) :: starEach [b] X.env := by rfl) (h4 : starEach [b] X.env = (false, eval b X.env) :: starEach [] X.env := by rfl) :
    RS M (.Assign [tg] (.Tuple [a, b] ku pt2) pos :: rest) ρ emb emc (bnd f fun u => bnd lf fun v => k u v) := ⟨fun t P D z w =>
  jss_cons (js_of (ps_asg (pe_tup (pa_cons peT (pa_cons peT pa_nil h4) h3)) hg hs hw h1) fun σ G H S E' F =>
    (ha.run t _ z) σ G H S _ fun G1 H1 v x t1 s1 d1 z1 => (hb.run t1 _ z1) σ G1 H1 (S.step s1) _ fun G2 H2 l ws xs t2 s2 n g e da z2 =>
      ⟨by show 2 ≤ sizeLine; decide, fun p hp => ⟨p, [v, .ref l], rfl, .inl (.inl upd_same), rfl, _, _, rfl, _, _, rfl, rfl, by
        have S2 := (S.step s1).step s2
        have s3 := S2.ok.layO (o := .tup [v, .ref l]) hp
        have S3 := S2.step s3
        have e3 : (upd H2 p (.tup [v, .ref l])) l = some (.lst ws) := by
          rw [upd_ne (ne_of_none e hp)]
          exact e
        exact F.nx _ G2 _ _ t2 ((S3.set (De.up s2.gg _ _ d1)).setL (S.ne_r (fresh_of s1 n)) g e3 (fresh_of S.st (fresh_of s1 n)) da fun j' ys ne e' => by
          by_cases hji : i = j'
          · subst hji
            have hl : i < ρ.length := by
              by_cases q : i < ρ.length
              · exact q
              · rw [List.getElem?_eq_none (by rw [List.length_set]; omega)] at e'
                cases e'
            rw [List.getElem?_set_self hl] at e'
            cases e'
          · rw [List.getElem?_set_ne hji] at e' ⊢
            exact (S.step s1).fresh n e') (s1.trans s2).gg ((hk _ _).run t2 P D z2 w)⟩⟩)⟩
/-- x, y = a new list, e; the names may be cells -/
theorem rs_parLDg (i j : Nat) {pt2 : Pos} {ku : Nat} {k : List PyData → PyData → W (Out τ σ)} (hg : PG X tg (gTup X.KK 2 (gCons (gName i) (gCons (gName j) gNil)))) (ha : RL M a ρ lf) (hb : RD M b ρ g) (hk : ∀ u v, RS M rest ((ρ.set i (.own u)).set j (.d v)) emb emc (k u v)) (hij : i ≠ j := by decide)
    (hs : swapsWithSole [tg] (.Tuple [a, b] ku pt2) pos.line X.env = pure false := by rfl) (hw : swappedStores [tg] (.Tuple [a, b] ku pt2) X.env = pure none := by rfl) (h1 : (assignEach [tg] X.env).map (·.2) = [assign tg X.env] := by rfl)
    (h3 : starEach [a, b] X.env = (false, eval a X.env) :: starEach [b] X.env := by rfl) (h4 : starEach [b] X.env = (false, eval b X.env) :: starEach [] X.env := by rfl) :
    RS M (.Assign [tg] (.Tuple [a, b] ku pt2) pos :: rest) ρ emb emc (bnd lf fun u => bnd g fun v => k u v) := ⟨fun t P D z w =>
  jss_cons (js_of (ps_asg (pe_tup (pa_cons peT (pa_cons peT pa_nil h4) h3)) hg hs hw h1) fun σ G H S E' F =>
    (ha.run t _ z) σ G H S _ fun G1 H1 l ws xs t1 s1 n g e da z1 => (hb.run t1 _ z1) σ G1 H1 (S.step s1) _ fun G2 H2 v x t2 s2 d2 z2 =>
      ⟨by show 2 ≤ sizeLine; decide, fun p hp => ⟨p, [.ref l, v], rfl, .inl (.inl upd_same), rfl, _, _, rfl, _, _, rfl, rfl, by
        have S1 := (S.step s1).setL (i := i) (S.ne_r n) g e (fresh_of S.st n) da fun j' ys ne e' => S.fresh n (by exact e') |> fun h => h
        have S2 := S1.step s2
        have s3 := S2.ok.layO (o := .tup [.ref l, v]) hp
        exact F.nx _ G2 _ _ t2 ((S2.step s3).set (i := j) d2) (s1.trans s2).gg ((hk _ _).run t2 P D z2 w)⟩⟩)⟩
theorem rl_call0 {x : Str} {p : Pos} {k : Nat} {m : List B → W B} (E : Ev X kk) (D : Def X.prog X.w X.K Wo X.mg X.base k x 0 (Sm m)) (hk : k ≤ kk := by decide) (hg : Gl X x := by rfl) (h2 : (x == ("__debug__" : Str)) = false := by decide) :
    RL M (.Call (.Name x p) [] [] pos) ρ (bnd (callN 0 m (Dw.ret [])) asO) := ⟨fun t P z => jl_call0 (D.imp (S' := fun bs t Q => m bs t Q) fun bs t Q z => z) E.room hk hg (by
  have z2 : m [] t (fun b t2 => asO b t2 P) := z.2
  have e : (fun b t2 => asO b t2 P) = fun b t2 => ∃ y, b = .own y ∧ P y t2 := by
    funext b t2
    refine propext ⟨fun w => ?_, fun ⟨y, ey, py⟩ => by subst ey; exact py⟩
    cases b <;> first | exact ⟨_, rfl, w⟩ | exact w.elim
  rw [e] at z2
  exact z2) h2⟩
end
end Dz
end
section
set_option maxRecDepth 100000
set_option maxHeartbeats 4000000
namespace Dw
open PySem PySem.Spec PyProof.Rows L2 Dl
section
variable {X : Cx} {Wo : WO} {M : Md X.KK Wo} {ρ : List B} {t : Rs} {e a : Expr} {pos p : Pos} {k kk : Nat} {f : W PyData}
/-! repr again, for long texts -/
def oreprL (x : PyData) : W PyData := need (Fin x ∧ x.shown.length ≤ 16000000 ∧ x.depth ≤ 60) (ret (.str x.shown))
theorem jd_reprL {P : PyData → Rs → Prop} (hr : Room k X.A) (hg0 : X.A.guards = some []) (hm : X.mg "repr" = none) (h : JD M e ρ t fun y t1 => Fin y ∧ y.shown.length ≤ 16000000 ∧ y.depth ≤ 60 ∧ P (.str y.shown) t1) (hg : Gl X "repr" := by rfl)
    (h3 : starEach [e] X.env = (false, eval e X.env) :: starEach [] X.env := by rfl) : JD M (.Call (.Name "repr" p) [e] [] pos) ρ t P :=
  jd_of (pe_callB (cr_repr hr hg0) hg hm (by decide +kernel) (pa_cons peT pa_nil h3) (by decide) (by decide) h3 rfl) fun σ G H S Q q => h σ G H S _ fun G1 H1 v y t1 s1 d1 ⟨fy, sy, dy, p1⟩ => by
    refine ⟨v, y, rfl, De.dp _ _ (Fin.noD y fy) (De.up (S.step s1).ok.sub _ _ d1), Fin.show_ y fy, Fin.noD y fy, by omega, ?_, fun i e => ?_, q G1 H1 _ _ t1 s1 (.str _) p1⟩
    · rw [sizeLine_eq]
      omega
    · subst e
      have f1 : i.natAbs < 2 ^ 256 := fy
      by_cases z : i.natAbs = 0
      · rw [z]
        decide
      · have := (Nat.log2_lt z).mpr f1
        omega
theorem rd_reprL (E : Ev X kk) (hg0 : X.A.guards = some []) (ha : RD M a ρ f) (hs : starEach [a] X.env = (false, eval a X.env) :: starEach [] X.env := by rfl) (hg : Gl X "repr" := by rfl) : RD M (.Call (.Name "repr" p) [a] [] pos) ρ (op1 oreprL f) := ⟨fun t P z =>
  jd_reprL E.room hg0 E.bu.repr ((ha.run t _ z).imp fun x t1 z1 => ⟨z1.1.1, z1.1.2.1, z1.1.2.2, z1.2⟩) hg hs⟩
theorem oreprL_ap (x : PyData) (P : PyData → Rs → Prop) : oreprL x t P = ((Fin x ∧ x.shown.length ≤ 16000000 ∧ x.depth ≤ 60) ∧ P (.str x.shown) t) := id rfl
theorem oreprL_s {y : Str} {P : PyData → Rs → Prop} (h : ∀ c ∈ y.cps.toList, c < 128) (hl : y.length ≤ 1500000) (q : P (.str (PyData.str y).shown) t) : oreprL (.str y) t P := by
  rw [oreprL_ap]
  refine ⟨⟨h, ?_, ?_⟩, q⟩
  · simp only [PyData.shown]
    have := StrLaws.reprText_len y fun c hc => Nat.lt_of_lt_of_le (h c hc) (by decide)
    omega
  · simp [PyData.depth]
theorem oreprL_d {x : PyData} {P : PyData → Rs → Prop} (h : Fin x) (hs : sz x ≤ 50000) (hd : x.depth ≤ 60) (q : P (.str x.shown) t) : oreprL x t P := by
  rw [oreprL_ap]
  have := Fin.len x h
  exact ⟨⟨h, by omega, hd⟩, q⟩
end
end Dw
end
section
set_option maxRecDepth 100000
set_option maxHeartbeats 4000000
namespace Dw
open PySem PySem.Spec PyProof.Rows L2 Dl
section
variable {X : Cx} {Wo : WO} {M : Md X.KK Wo} {ρ : List B} {e : Expr} {st : List Stmt} {τ σ : Type} {emb : τ → List B} {emc : σ → List B}
/-! what the law never reaches -/
theorem rs_bad : RS M st ρ emb emc (bad : W (Out τ σ)) := ⟨fun _ _ _ z _ => z.elim⟩
theorem rd_bad : RD M e ρ (bad : W PyData) := ⟨fun _ _ z => z.elim⟩
theorem rl_bad : RL M e ρ (bad : W (List PyData)) := ⟨fun _ _ z => z.elim⟩
end
end Dw
namespace Dw
open PySem PySem.Spec PyProof.Rows L2 Dl
/-! ### zip of two tuples, walked in pairs -/
def zipD (xs ys : List PyData) : List PyData := (List.range (min xs.length ys.length)).map fun i => .tuple [xs.getD i .none, ys.getD i .none]
theorem wk_zipT {K : KK} {Wo : WO} {M : Md K Wo} {G0 : Hp} {a b : Addr} {vs us : List V} {xs ys : List PyData} (h : SqT K G0 a vs) (d : DeAll K G0 vs xs) (h2 : SqT K G0 b us) (d2 : DeAll K G0 us ys) : Wk M G0 (RZ.ItzT K a b) (zipD xs ys) := by
  have len : (zipD xs ys).length = min vs.length us.length := by simp [zipD, d.length, d2.length]
  refine ⟨fun i t G H e k hi => ⟨vs, us, sqt_up (e.trans k.sub) h, sqt_up (e.trans k.sub) h2, by omega⟩, fun i t G H e k hi => ⟨vs, us, vs[i]'(by omega), us[i]'(by omega), sqt_up (e.trans k.sub) h, sqt_up (e.trans k.sub) h2, List.getElem?_eq_getElem _, List.getElem?_eq_getElem _⟩, fun i t G H x H' e k y hi => ?_⟩
  obtain ⟨T, u, u2, rfl, hT, rfl, hu, hu2⟩ := y
  have g1 := hu vs (sqt_up (e.trans k.sub) h)
  have g2 := hu2 us (sqt_up (e.trans k.sub) h2)
  obtain ⟨z, ez, dz⟩ := d.ofV g1
  obtain ⟨z2, ez2, dz2⟩ := d2.ofV g2
  have st := k.lay (o := .tup [u, u2]) hT
  refine ⟨_, .tuple [z, z2], st, ?_, .tup (.inl (.inl upd_same)) (.cons (De.up (e.trans st.gg) _ _ dz) (.cons (De.up (e.trans st.gg) _ _ dz2) .nil))⟩
  have i1 : i < xs.length := by rw [← d.length]; omega
  have i2 : i < ys.length := by rw [← d2.length]; omega
  have z1 : xs[i] = z := by rw [List.getElem?_eq_getElem i1] at ez; exact Option.some.inj ez
  have z3 : ys[i] = z2 := by rw [List.getElem?_eq_getElem i2] at ez2; exact Option.some.inj ez2
  have i3 : i < min xs.length ys.length := by omega
  simp only [zipD, List.getElem?_map, List.getElem?_range i3, Option.map_some, List.getD, ez, ez2, Option.getD_some]
def zipW (f g : W PyData) : W (List PyData) := bnd f fun x => bnd g fun y => match x, y with
  | .tuple xs, .tuple ys => Dw.ret (zipD xs ys)
  | _, _ => bad
section
variable {X : Cx} {Wo : WO} {M : Md X.KK Wo} {ρ : List B} {a b : Expr} {f g : W PyData} {kn : Nat} {pos p tpos : Pos} {elts : List Expr} {kk : Nat}
theorem ri_zip2 (E : Ev X kn) (ha : RD M a ρ f) (hb : RD M b ρ g) (hg : Gl X "zip" := by rfl) (hs : starEach [a, b] X.env = (false, eval a X.env) :: starEach [b] X.env := by rfl) (hs2 : starEach [b] X.env = (false, eval b X.env) :: starEach [] X.env := by rfl) (hp : (backTo pos (starEach [b] X.env)).any (·.1) = false := by rfl) :
    RI M (.Tuple elts kk tpos) (.Call (.Name "zip" p) [a, b] [] pos) ρ (zipW f g) := ⟨fun t P z σ G H S R r =>
  TiOf.of (RZ.pi_zipA hg E.bu.zip (pa_cons peT (pa_cons peT pa_nil hs2) hs) hs hp) ((ha.run t _ z) σ G H S _ fun G1 H1 v y t1 s1 d1 z1 => (hb.run t1 _ z1) σ G1 H1 (S.step s1) _ fun G2 H2 u w t2 s2 d2 z2 => by
    cases y <;> first | exact z2.elim | skip
    cases w <;> first | exact z2.elim | skip
    rename_i xs ys
    have k2 := ((S.step s1).step s2).ok
    have d1' := De.up s2.gg _ _ d1
    obtain ⟨a1, w1, rfl, st1, da1⟩ := d1'.tupE
    obtain ⟨a2, w2, rfl, st2, da2⟩ := d2.tupE
    exact ⟨a1, a2, w1, w2, rfl, .inr ⟨sqt_up k2.sub st1, sqt_up k2.sub st2, r G2 H2 _ _ t2 (s1.trans s2) (wk_zipT st1 da1 st2 da2) z2⟩⟩)⟩
theorem zipW_ap (f g : W PyData) {t : Rs} (P : List PyData → Rs → Prop) : zipW f g t P = f t fun x t1 => g t1 fun y t2 => (match x, y with | .tuple xs, .tuple ys => ret (zipD xs ys) | _, _ => bad) t2 P := id rfl
end
end Dw
end
section
set_option maxRecDepth 100000
set_option maxHeartbeats 4000000
/-! generators: defs that yield data -/
namespace Dl
open PySem PySem.Spec PyProof.Rows L2 GenW
/-- if, in a generator's body -/
def tGIf (c : TT) (ta tb : TGn) : TGn := fun D ys σ H => c σ H fun b H1 => (b = true → ta D ys σ H1) ∧ (b = false → tb D ys σ H1)
theorem gs_if {X : Cx} {c : Expr} {a b : List Stmt} {pos : Pos} {tc : TT} {ta tb : TGn} (hc : PT X c tc) (ha : GSs X a ta) (hb : GSs X b tb) : GS X (.If c a b pos) (tGIf tc ta tb) := by
  refine ⟨fun A S ip R n ys s₀ cd fs K J gd lv s σ H D g hn k hI ht => ?_⟩
  obtain ⟨acc, cc, r, I⟩ := hI
  show Seg _ _ _ _ n s₀ cd (.at pos fun _ => ((isTrue c X.env (eval c X.env)) >>= fun d => if d then execs a X.env else execs b X.env).wrap K J gd lv) fs s
  refine seg_at ?_
  refine seg_bind_wrap ?_
  rw [g.over]
  refine wpAny_mono (hc.run _ s σ H _ I ht) (fun d s1 hd => ?_) fun x s' hx => k.exc n s₀ x s' hx
  obtain ⟨H1, I1, q1⟩ := hd
  cases d with
  | true => exact ha.run A S ip R n ys s₀ cd fs K J gd lv s1 σ H1 D g hn k ⟨acc, cc, r, I1⟩ (q1.1 rfl)
  | false => exact hb.run A S ip R n ys s₀ cd fs K J gd lv s1 σ H1 D g hn k ⟨acc, cc, r, I1⟩ (q1.2 rfl)
/-- the reading that a generator's text has by itself -/
@[irreducible] def TgsOf (X : Cx) (sts : List Stmt) : TGn := fun D ys σ H => ∀ (A : Around) (S : Addr) (ip : List (Addr × Obj)) (R : GenEnd) (n : Nat) (s₀ : Shared) (c : Code) (fs : List Frame) (K : Flow → Sem PySem.Fin) (J : Value → Sem PySem.Fin) (gd : Bool → Bool) (lv : List Value → List Value) (s : Shared),
    GC X S ip A c fs gd → n + ys.length = sizeLine → GK X S ip A R c fs K J D → GI X S ip ys σ H s →
    Seg (model X.prog X.w) A R (GY X S) n s₀ c ((execs sts X.env).wrap K J gd lv) fs s
theorem gsT {X : Cx} {sts : List Stmt} : GSs X sts (TgsOf X sts) := by
  unfold TgsOf
  exact ⟨fun A S ip R n ys s₀ c fs K J gd lv s σ H D g hn k hI ht => ht A S ip R n s₀ c fs K J gd lv s g hn k hI⟩
theorem TgsOf.of {X : Cx} {sts : List Stmt} {t : TGn} {D : GEnds} {ys : List V} {σ : L2.St} {H : Hp} (h : GSs X sts t) (q : t D ys σ H) : TgsOf X sts D ys σ H := by
  unfold TgsOf
  exact fun A S ip R n s₀ c fs K J gd lv s g hn k hI => h.run A S ip R n ys s₀ c fs K J gd lv s σ H D g hn k hI q
/-- what is wanted behind a generator's text: the slots, what is out so far -/
structure Gk where
  nx : List B → List PyData → Rs → Prop
  bk : List B → List PyData → Rs → Prop := fun _ _ _ => False
  ct : List B → List PyData → Rs → Prop := fun _ _ _ => False
section
variable {K : KK} {Wo : WO}
structure FitG (M : Md K Wo) (G1 : Hp) (D : Gk) (E : GEnds) : Prop where
  nx : ∀ (σ : L2.St) (G H : Hp) (ρ : List B) (t : Rs) (ys : List V) (out : List PyData), Sat M t G H σ ρ → Same G1 G → DeAll K G ys out → D.nx ρ out t → E.nx ys σ H
  bk : ∀ (σ : L2.St) (G H : Hp) (ρ : List B) (t : Rs) (ys : List V) (out : List PyData), Sat M t G H σ ρ → Same G1 G → DeAll K G ys out → D.bk ρ out t → E.bk ys σ H
  ct : ∀ (σ : L2.St) (G H : Hp) (ρ : List B) (t : Rs) (ys : List V) (out : List PyData), Sat M t G H σ ρ → Same G1 G → DeAll K G ys out → D.ct ρ out t → E.ct ys σ H
theorem FitG.mono {M : Md K Wo} {G G' : Hp} {D : Gk} {E : GEnds} (F : FitG M G D E) (e : Same G G') : FitG M G' D E :=
  ⟨fun σ G2 H ρ t ys out S s a d => F.nx σ G2 H ρ t ys out S (e.trans s) a d, fun σ G2 H ρ t ys out S s a d => F.bk σ G2 H ρ t ys out S (e.trans s) a d, fun σ G2 H ρ t ys out S s a d => F.ct σ G2 H ρ t ys out S (e.trans s) a d⟩
def DGn (M : Md K Wo) (tg : TGn) (ρ : List B) (out : List PyData) (t : Rs) (D : Gk) : Prop := ∀ (σ : L2.St) (G H : Hp) (ys : List V), Sat M t G H σ ρ → DeAll K G ys out → ∀ E : GEnds, FitG M G D E → tg E ys σ H
end
section
variable {X : Cx} {Wo : WO} (M : Md X.KK Wo)
abbrev JG (sts : List Stmt) (ρ : List B) (out : List PyData) (t : Rs) (D : Gk) : Prop := DGn M (TgsOf X sts) ρ out t D
end
section
variable {X : Cx} {Wo : WO} {M : Md X.KK Wo} {ρ : List B} {out : List PyData} {t : Rs} {D : Gk} {st : Stmt} {rest body other : List Stmt} {c e : Expr} {pos yp : Pos}
theorem jg_nil (h : D.nx ρ out t) : JG M [] ρ out t D := fun σ G H ys S a E F => TgsOf.of gss_nil (F.nx σ G H ρ t ys out S (Same.refl _) a h)
/-- a statement that yields nothing -/
theorem jg_plain (h : JS M st ρ t { nx := fun ρ' t' => JG M rest ρ' out t' D, rt := fun _ _ => False }) : JG M (st :: rest) ρ out t D := fun σ G H ys S a E F =>
  TgsOf.of (gss_cons (gs_ps psT) gsT) (h σ G H S _ ⟨fun σ' G' H' ρ' t' S' sm p => p σ' G' H' ys S' (DeAll.up sm _ _ a) E (F.mono sm), fun _ _ _ _ _ _ _ p => p.elim, fun _ _ _ _ _ _ _ p => p.elim, fun _ _ _ _ _ _ _ p => p.elim, fun _ _ _ _ _ _ _ _ _ _ _ p => p.elim⟩)
theorem jg_yield (hl : out.length < sizeLine) (h : JD M e ρ t fun x t1 => JG M rest ρ (out ++ [x]) t1 D) (hco : X.env.scope.isCoroutine = false := by rfl) (hi : interactive X.env = false := by rfl) : JG M (.Expr (.Yield (some e) yp) pos :: rest) ρ out t D := fun σ G H ys S a E F =>
  TgsOf.of (gss_cons (gs_yield peT hco hi) gsT) ⟨by rw [a.length]; exact hl, h σ G H S _ fun G1 H1 v x t1 s1 d1 p => p σ G1 H1 (ys ++ [v]) (S.step s1) (DeAll.app (DeAll.up s1.gg _ _ a) (.cons d1 .nil)) E (F.mono s1.gg)⟩
theorem jg_if (h : JT M c ρ t fun k t1 => (k = true → JG M body ρ out t1 { nx := fun ρ' o' t' => JG M rest ρ' o' t' D, bk := D.bk, ct := D.ct }) ∧ (k = false → JG M other ρ out t1 { nx := fun ρ' o' t' => JG M rest ρ' o' t' D, bk := D.bk, ct := D.ct })) : JG M (.If c body other pos :: rest) ρ out t D := fun σ G H ys S a E F =>
  TgsOf.of (gss_cons (gs_if ptT gsT gsT) gsT) (h σ G H S _ fun G1 H1 k t1 s1 ⟨h1, h2⟩ => by
    have fit : FitG M G1 { nx := fun ρ' o' t' => JG M rest ρ' o' t' D, bk := D.bk, ct := D.ct } { E with nx := fun ys' σ' H' => TgsOf X rest E ys' σ' H' } :=
      ⟨fun σ2 G2 H2 ρ2 t2 ys2 o2 S2 m a2 d => d σ2 G2 H2 ys2 S2 a2 E (F.mono (s1.gg.trans m)), fun σ2 G2 H2 ρ2 t2 ys2 o2 S2 m a2 d => F.bk σ2 G2 H2 ρ2 t2 ys2 o2 S2 (s1.gg.trans m) a2 d, fun σ2 G2 H2 ρ2 t2 ys2 o2 S2 m a2 d => F.ct σ2 G2 H2 ρ2 t2 ys2 o2 S2 (s1.gg.trans m) a2 d⟩
    exact ⟨fun e => h1 e σ G1 H1 ys (S.step s1) (DeAll.up s1.gg _ _ a) _ fit, fun e => h2 e σ G1 H1 ys (S.step s1) (DeAll.up s1.gg _ _ a) _ fit⟩)
theorem jg_while (hp : PassesOwn (model X.prog X.w) X.A X.env X.xe) (Iv : Nat → List B → List PyData → Rs → Prop) (m0 : Nat) (h0 : Iv m0 ρ out t)
    (h : ∀ (m : Nat) (ρ' : List B) (o' : List PyData) (t' : Rs), Iv m ρ' o' t' → JT M c ρ' t' fun k t1 =>
      (k = true → JG M body ρ' o' t1 { nx := fun ρ2 o2 t2 => ∃ m', m' < m ∧ Iv m' ρ2 o2 t2, ct := fun ρ2 o2 t2 => ∃ m', m' < m ∧ Iv m' ρ2 o2 t2, bk := fun ρ2 o2 t2 => JG M rest ρ2 o2 t2 D }) ∧ (k = false → JG M rest ρ' o' t1 D)) :
    JG M (.While c body [] pos :: rest) ρ out t D := fun σ G H ys S a E F => TgsOf.of (gss_cons (gs_while hp ptT gsT) gsT) (by
  refine ⟨fun m ys' σ' H' => ∃ G' ρ' o' t', Sat M t' G' H' σ' ρ' ∧ Same G G' ∧ DeAll X.KK G' ys' o' ∧ Iv m ρ' o' t', ⟨m0, G, ρ, out, t, S, Same.refl _, a, h0⟩, ?_⟩
  rintro m ys' σ' H' ⟨G', ρ', o', t', S', sm, a', hI⟩
  refine h m ρ' o' t' hI σ' G' H' S' _ fun G1 H1 k t1 s1 ⟨h1, h2⟩ => ?_
  have a1 : DeAll X.KK G1 ys' o' := DeAll.up s1.gg _ _ a'
  cases k with
  | true =>
    rw [if_pos rfl]
    refine ⟨fun ys2 σ2 H2 => ∃ m', m' < m ∧ ∃ G2 ρ2 o2 t2, Sat M t2 G2 H2 σ2 ρ2 ∧ Same G G2 ∧ DeAll X.KK G2 ys2 o2 ∧ Iv m' ρ2 o2 t2, fun ys2 σ2 H2 ⟨m', hm, q⟩ => ⟨m', hm, q⟩, ?_⟩
    exact h1 rfl σ' G1 H1 ys' (S'.step s1) a1 _ ⟨fun σ4 G4 H4 ρ4 t4 y4 o4 S4 g a4 ⟨m', hm, q⟩ => ⟨m', hm, G4, ρ4, o4, t4, S4, (sm.trans s1.gg).trans g, a4, q⟩,
      fun σ4 G4 H4 ρ4 t4 y4 o4 S4 g a4 q => q σ4 G4 H4 y4 S4 a4 E (F.mono ((sm.trans s1.gg).trans g)), fun σ4 G4 H4 ρ4 t4 y4 o4 S4 g a4 ⟨m', hm, q⟩ => ⟨m', hm, G4, ρ4, o4, t4, S4, (sm.trans s1.gg).trans g, a4, q⟩⟩
  | false =>
    rw [if_neg Bool.false_ne_true]
    exact h2 rfl σ' G1 H1 ys' (S'.step s1) a1 E (F.mono (sm.trans s1.gg)))
end

/-! ### a generator def, and list(g(..)) -/
def spG (K : KK) (Wo : WO) (n : Nat) (S : List B → Rs → (B → Rs → Prop) → Prop) : SpG := fun vs H Q _ => ∃ (M : Md K Wo) (G : Hp) (bs : List B) (t : Rs) (P : B → Rs → Prop), Ok M t G H ∧ ArgAll M G vs bs ∧ bs.length = n ∧ S bs t P ∧
  (∀ (G' H' : Hp) (ys : List V) (xs : List PyData) (t' : Rs), Stp M t' G H G' H' → DeAll K G' ys xs → P (.own xs) t' → Q ys H')
structure GDef (P : Program) (w : World) (K : PySem.W.Frag) (Wo : WO) (mg : Str → Option Value) (base : Heap) (k : Nat) (x : Str) (n : Nat) (S : List B → Rs → (B → Rs → Prop) → Prop) : Prop where
  ex : ∃ (f : Addr) (fd : FuncData) (ps : List Str), GFn P w K mg base k f fd ps (spG (kkOf P w K) Wo n S) ∧ mg x = some (.ref f) ∧ PySem.W.keepIn K (.ref f) = true ∧ Binds K fd ps []
section
variable {P : Program} {w : World} {K : PySem.W.Frag} {mg : Str → Option Value} {base : Heap}
abbrev Xg (P : Program) (w : World) (K : PySem.W.Frag) (mg : Str → Option Value) (base : Heap) (N : List Str) (qual : Str) (st : Stmt) (f : Addr) (cdv : Value) (A : Around) (outer : List Env) (s : Shared) (H : Hp) (E : XK) (pn : List (Addr × Obj)) : Cx :=
  gcxOf P w K mg base N qual (defScope st) f cdv A outer s H E pn
theorem okG {Wo : WO} {x qual : Str} {st : Stmt} {f : Addr} {fd : FuncData} {N ps : List Str} {k n : Nat} {S : List B → Rs → (B → Rs → Prop) → Prop} (F : Fun K x qual st f fd) (Sc : GScope N ps (defScope st)) (hn : ps.length = n)
    (body : ∀ (cdv : Value) (A : Around) (outer : List Env) (s : Shared) (H : Hp) (E : XK) (pn : List (Addr × Obj)) (M : Md (kkOf P w K) Wo) (bs : List B) (t : Rs) (Pt : B → Rs → Prop), Room k (Xg P w K mg base N qual st f cdv A outer s H E pn).A → bs.length = n → S bs t Pt →
      JG (X := Xg P w K mg base N qual st f cdv A outer s H E pn) M (defBody st) (bs ++ List.replicate (N.length - n) .un) [] t { nx := fun _ out t' => Pt (.own out) t' }) : GFn P w K mg base (k + 1) f fd ps (spG (kkOf P w K) Wo n S) := by
  obtain ⟨oc, od, kV, doc, pm, an, cdv, ct, osl, rfl, lk, hcd⟩ := F.ex
  refine gfn_of lk hcd Sc (fun vs H Q E h => ?_) fun A outer s H vs Q E pn hr h => ?_
  · obtain ⟨M, G, bs, t, Pt, _, a, hl, _⟩ := h
    rw [a.length, hl, hn]
  · obtain ⟨M, G, bs, t, Pt, ok, a, hl, hS, q⟩ := h
    exact ⟨_, gsT, body cdv A outer s H E pn (M.at_ G H) bs t Pt hr hl hS (L2.start N vs) G H [] (sat_start ok a hl) .nil _
      ⟨fun σ' G' H' ρ' t' ys out S' _ a' p => q G' H' ys out t' ⟨S'.st.gg, S'.st.hh, S'.st.al, S'.st.fr, S'.st.sub, S'.st.rd, S'.st.tb⟩ a' p, fun _ _ _ _ _ _ _ _ _ _ p => p.elim, fun _ _ _ _ _ _ _ _ _ _ p => p.elim⟩⟩
theorem _root_.L2.Fun.gdef {Wo : WO} {x qual y : Str} {st : Stmt} {f : Addr} {fd : FuncData} {ps : List Str} {k n : Nat} {S : List B → Rs → (B → Rs → Prop) → Prop} (F : Fun K x qual st f fd) (h : GFn P w K mg base k f fd ps (spG (kkOf P w K) Wo n S)) (hm : mg y = some (.ref f)) (b : Binds K fd ps []) : GDef P w K Wo mg base k y n S := ⟨f, fd, ps, h, hm, F.kp, b⟩
end
theorem passG {X : Cx} : Passes (CX X.prog X.w) X L2.E0 := fun _ _ _ _ _ _ _ ⟨_, _, _, _, _, _, _, _, _, _, _, _, hW⟩ => hW.elim
theorem noStop0 {K : PySem.W.Frag} : NoStop K L2.E0 := fun _ _ _ h => h.elim
end Dl
namespace Dw
open PySem PySem.Spec PyProof.Rows L2 Dl
open Dw (ret)
def endG {τ σ : Type} (D : Gk) (emb : τ → List B × List PyData) (emc : σ → List B × List PyData) : Out τ σ → Rs → Prop
  | .nx s, t => D.nx (emb s).1 (emb s).2 t
  | .ct s, t => D.ct (emc s).1 (emc s).2 t
  | .bk s, t => D.bk (emc s).1 (emc s).2 t
  | .rt _, _ => False
section
variable {X : Cx} {Wo : WO} (M : Md X.KK Wo)
structure RY {τ σ : Type} (st : List Stmt) (ρ : List B) (out : List PyData) (emb : τ → List B × List PyData) (emc : σ → List B × List PyData) (m : W (Out τ σ)) : Prop where
  run : ∀ (t : Rs) (P : Out τ σ → Rs → Prop) (D : Gk), m t P → (∀ o t', P o t' → endG D emb emc o t') → JG M st ρ out t D
end
section
variable {X : Cx} {Wo : WO} {M : Md X.KK Wo} {ρ ρ2 : List B} {out : List PyData} {c e : Expr} {pos yp : Pos} {f : W PyData} {tf : W Bool} {lf : W (List PyData)} {kk : Nat} {α τ σ : Type} {emb : τ → List B × List PyData} {emc : σ → List B × List PyData} {eme : α → List B × List PyData} {rest body other : List Stmt} {m : W (Out τ σ)}
theorem jg_le {t : Rs} {D : Gk} (hl : Le ρ ρ2) (h : JG M rest ρ2 out t D) : JG M rest ρ out t D := fun σ G H ys S a E F => h σ G H ys (sat_le hl S) a E F
theorem ry_nil {s : τ} (hl : Le ρ (emb s).1) (ho : out = (emb s).2) : RY M [] ρ out emb emc (ret (.nx s)) := ⟨fun t P D z i => by
  subst ho
  exact jg_le hl (jg_nil (i _ _ z))⟩
theorem ry_set (i : Nat) {x : Str} {pos' : Pos} {k : PyData → W (Out τ σ)} (hN : X.N.Nodup) (ha : RD M e ρ f) (hk : ∀ y, RY M rest (ρ.set i (.d y)) out emb emc (k y)) (hi : X.N[i]? = some x := by rfl) (hx : L2.Loc X.env.scope x := by first | exact Or.inl rfl | exact Or.inr rfl) (hs : swapsWith e (some (.Name x pos')) pos.line X.env = pure false := by rfl)
    (hf : X.fn x = true ∨ X.env.scope.names.lookup x = some .local := by first | exact .inl rfl | exact .inr rfl) : RY M (.Assign [.Name x pos'] e pos :: rest) ρ out emb emc (bnd f k) := ⟨fun t P D z w => jg_plain (js_set i hN ((ha.run t _ z).imp fun y t1 z1 => (hk y).run t1 P D z1 w) hi hx hs hf)⟩
theorem ry_yield (ha : RD M e ρ f) {k : PyData → W (Out τ σ)} (hk : ∀ y, RY M rest ρ (out ++ [y]) emb emc (k y)) (hco : X.env.scope.isCoroutine = false := by rfl) (hi : interactive X.env = false := by rfl) :
    RY M (.Expr (.Yield (some e) yp) pos :: rest) ρ out emb emc (need (out.length < 16777216) (bnd f k)) := ⟨fun t P D z w => jg_yield z.1 ((ha.run t _ z.2).imp fun y t1 z1 => (hk y).run t1 P D z1 w) hco hi⟩
theorem ry_ifJ {ka kb : W (Out α σ)} {k : α → W (Out τ σ)} (hc : RT M c ρ tf) (ha : RY M body ρ out eme emc ka) (hb : RY M other ρ out eme emc kb) (hk : ∀ s, RY M rest (eme s).1 (eme s).2 emb emc (k s)) : RY M (.If c body other pos :: rest) ρ out emb emc (joi (ifW tf ka kb) k) := ⟨fun t P D z n => jg_if ((hc.run t _ z).imp fun b t1 z1 => by
  have key : ∀ (o : Out α σ) (t2 : Rs), (match o with | .nx s => k s | .ct s => ret (.ct s) | .bk s => ret (.bk s) | .rt b => ret (.rt b) : W (Out τ σ)) t2 P → endG { nx := fun ρ' o' t' => JG M rest ρ' o' t' D, bk := D.bk, ct := D.ct } eme emc o t2 := fun o t2 w => by
    cases o with
    | nx s => exact (hk s).run t2 P D w n
    | ct s => exact n _ _ w
    | bk s => exact n _ _ w
    | rt b => exact n _ _ w
  refine ⟨fun e => ?_, fun e => ?_⟩
  · subst e
    exact ha.run t1 _ _ z1 key
  · subst e
    exact hb.run t1 _ _ z1 key)⟩
theorem ry_while {cw : α → W Bool} {fb : α → W (Out α α)} {k : α → W (Out τ σ)} (s0 : α) (hp : PassesOwn (model X.prog X.w) X.A X.env X.xe) (hl : Le ρ (eme s0).1) (ho : out = (eme s0).2) (hc : ∀ s, RT M c (eme s).1 (cw s)) (hb : ∀ s, RY M body (eme s).1 (eme s).2 eme eme (fb s)) (hk : ∀ s, RY M rest (eme s).1 (eme s).2 emb emc (k s)) :
    RY M (.While c body [] pos :: rest) ρ out emb emc (thn (whW cw fb s0) k) := ⟨fun t P D z n => by
  obtain ⟨m0, z⟩ := z
  subst ho
  have fin : ∀ (o : Sum α B) (t2 : Rs), (match o with | .inl s => k s | .inr b => ret (.rt b) : W (Out τ σ)) t2 P → (match o with | .inl s => JG M rest (eme s).1 (eme s).2 t2 D | .inr b => False) := fun o t2 w => by
    cases o with
    | inl s => exact (hk s).run t2 P D w n
    | inr b => exact n _ _ w
  refine jg_le hl (jg_while hp (fun m ρ' o' t' => ∃ s, ρ' = (eme s).1 ∧ o' = (eme s).2 ∧ whN cw fb m s t' (fun o t2 => (match o with | .inl s => k s | .inr b => ret (.rt b) : W (Out τ σ)) t2 P)) m0 ⟨s0, rfl, rfl, z⟩ fun m ρ' o' t' ⟨s, es, eo, w⟩ => ?_)
  subst es eo
  cases m with
  | zero => exact w.elim
  | succ m =>
    refine ((hc s).run t' _ w).imp fun b t1 w1 => ⟨fun e => ?_, fun e => ?_⟩
    · subst e
      refine (hb s).run t1 _ _ w1 fun o t2 w2 => ?_
      cases o with
      | nx s2 => exact ⟨m, Nat.lt_succ_self _, s2, rfl, rfl, w2⟩
      | ct s2 => exact ⟨m, Nat.lt_succ_self _, s2, rfl, rfl, w2⟩
      | bk s2 => exact fin (.inl s2) t2 w2
      | rt b => exact fin (.inr b) t2 w2
    · subst e
      exact fin (.inl s) t1 w1⟩
/-- a generator def, as what makes the list of all that it yields -/
def fnG (m : W (Out (List PyData) Empty)) : W B := bnd m fun o => match o with
  | .nx xs => ret (.own xs)
  | .rt _ => bad
  | .ct s => nomatch s
  | .bk s => nomatch s
theorem gn_run (ρ : List B) {ρe : List B} {m : W (Out (List PyData) Empty)} {t : Rs} {Q : B → Rs → Prop} (h : RY M body ρ [] (fun xs : List PyData => (ρe, xs)) (nul : Empty → List B × List PyData) m) (z : fnG m t Q) : JG M body ρ [] t { nx := fun _ out t' => Q (.own out) t' } := h.run t _ _ z fun o t' w => by
  cases o with
  | nx s => exact w
  | rt b => exact w
  | ct s => exact nomatch s
  | bk s => exact nomatch s
theorem rl_listG {x : Str} {k n : Nat} {m : List B → W B} {es : List Expr} {p p2 pos2 : Pos} {af : W (List B)} (E : Ev X kk) (D : GDef X.prog X.w X.K Wo X.mg X.base k x n (Sm m)) (ha : RA M (e :: es) ρ af) (hk : k + 3 ≤ kk := by decide) (hg : Gl X x := by rfl) (hgl : Gl X "list" := by rfl)
    (h2 : (x == ("__debug__" : Str)) = false := by decide) (h3 : starEach (e :: es) X.env = (false, eval e X.env) :: starEach es X.env := by rfl)
    (h4 : (backTo pos (starEach es X.env)).any (·.1) = false := by rfl) (h5 : starEach [.Call (.Name x p) (e :: es) [] pos] X.env = (false, eval (.Call (.Name x p) (e :: es) [] pos) X.env) :: starEach [] X.env := by rfl) :
    RL M (.Call (.Name "list" p2) [.Call (.Name x p) (e :: es) [] pos] [] pos2) ρ (bnd (callN n m af) asO) := ⟨fun t P z => by
  obtain ⟨fa, fd, ps, F, hm, kp, hb⟩ := D.ex
  refine jl_of (pe_listG (pgen_call (E := L2.E0) F (E.room.mono (by omega)) hg hm kp hb .nil paT h2 h3 h4) passG noStop0 (E.room.mono hk) hgl E.bu.list boot_list' (by decide) (by decide) h5) fun σ G H S Q q => ?_
  refine (ha.run t _ z) σ G H S _ fun G1 H1 vs bs t1 s1 a1 ⟨hl, sp⟩ => ?_
  show spG X.KK Wo n _ (vs ++ []) H1 _ L2.E0
  rw [List.append_nil]
  refine ⟨M, G1, bs, t1, fun b t2 => asO b t2 P, (S.step s1).ok, a1, hl, sp, fun G2 H2 ys xs t2 s2 d2 py pa hpa => ?_⟩
  have ok2 := ((S.step s1).step s2).ok
  have g0 : G2 pa = none := by
    cases e0 : G2 pa with
    | none => rfl
    | some o =>
      rw [ok2.sub pa o e0] at hpa
      cases hpa
  exact q G2 (upd H2 pa (.lst ys)) pa ys xs t2 ((s1.trans s2).trans (ok2.layO hpa)) (fresh_of (s1.trans s2) hpa) g0 upd_same d2 py⟩
end
end Dw

/-! ### a nested target: (n, (a, b, c)) -/
namespace Dl
open PySem PySem.Spec PyProof.Rows L2
theorem dg_t13 {K : KK} {Wo : WO} {M : Md K Wo} {i j k l : Nat} {x y z u : PyData} {ρ : List B} {Q : List B → Prop} (h : Q ((((ρ.set i (.d x)).set j (.d y)).set k (.d z)).set l (.d u))) :
    DG M (gTup K 2 (gCons (gName i) (gCons (gTup K 3 (gCons (gName j) (gCons (gName k) (gCons (gName l) gNil)))) gNil))) (.tuple [x, .tuple [y, z, u]]) ρ Q := fun t G H σ v S d R r => by
  obtain ⟨a, vs, rfl, st, da⟩ := d.tupE
  cases da with
  | cons d1 da => cases da with
    | cons d2 da =>
      cases da
      obtain ⟨a2, vs2, rfl, st2, da2⟩ := d2.tupE
      cases da2 with
      | cons e1 da2 => cases da2 with
        | cons e2 da2 => cases da2 with
          | cons e3 da2 =>
            cases da2
            exact ⟨a, _, rfl, sqt_up S.ok.sub st, rfl, _, _, rfl, _, _, rfl, a2, _, rfl, sqt_up S.ok.sub st2, rfl, _, _, rfl, _, _, rfl, _, _, rfl, rfl, rfl, r _ _ ((((S.set d1).set e1).set e2).set e3) h⟩
theorem wipes13 {K : KK} {i j k l n m : Nat} (hij : i ≠ j) (hik : i ≠ k) (hil : i ≠ l) (hjk : j ≠ k) (hjl : j ≠ l) (hkl : k ≠ l) : Wipes (gTup K n (gCons (gName i) (gCons (gTup K m (gCons (gName j) (gCons (gName k) (gCons (gName l) gNil)))) gNil))) [i, j, k, l] := fun v σ H Q h => by
  obtain ⟨a, xs, e, q, ll, x, r, e1, y, r2, e2, a2, xs2, e3, q2, l2, y1, r3, e4, y2, r4, e5, y3, r5, e6, e7, e8, h⟩ := h
  refine ⟨a, xs, e, q, ll, x, r, e1, y, r2, e2, a2, xs2, e3, q2, l2, y1, r3, e4, y2, r4, e5, y3, r5, e6, e7, e8, ?_, h⟩
  simp only [wipe, List.set_set]
  apply List.ext_getElem?
  intro m
  simp only [List.getElem?_set]
  repeat' split
  all_goals first | (simp_all; done) | omega | (simp_all; omega)
/-- lo, lo - 1, .. -/
def rngDn (lo : Int) (n : Nat) : List PyData := (List.range n).map fun i => .int (lo - (i : Nat))
theorem wk_rngDn {K : KK} {Wo : WO} {M : Md K Wo} {G0 : Hp} {lo : Int} {n : Nat} : Wk M G0 (Itc lo (-1) n) (rngDn lo n) where
  stop := fun i t G H e k hi => by
    have h2 : n ≤ i := by simpa [rngDn] using hi
    exact h2
  go := fun i t G H e k hi => by
    have h2 : i < n := by simpa [rngDn] using hi
    exact h2
  yld := fun i t G H x H' e k y hi => by
    obtain ⟨rfl, rfl⟩ := y
    have hi2 : i < n := by simpa [rngDn] using hi
    refine ⟨G, .int (lo - (i : Nat)), k.refl, by simp [rngDn, hi2], ?_⟩
    rw [show lo + (i : Nat) * (-1 : Int) = lo - (i : Nat) by omega]
    exact .int _
end Dl
namespace Dw
open PySem PySem.Spec PyProof.Rows L2 Dl Dz
open Dw (ret)
def t13 {α : Type} (k : PyData → PyData → PyData → PyData → W α) : PyData → W α
  | .tuple [x, .tuple [a, b, c]] => k x a b c
  | _ => bad
def rng3 (f g h : W PyData) : W (List PyData) := bnd f fun x => bnd g fun y => bnd h fun z => match x, y, z with
  | .int i, .int j, .int c => need (c = -1 ∧ inRng i ∧ inRng j) (ret (rngDn i (i - j).toNat))
  | _, _, _ => bad
def dlitW (ks : List Str) (lf : W (List PyData)) (f : W PyData) : W PyData := bnd lf fun ds => dgetW ks ds f
section
variable {X : Cx} {Wo : WO} {M : Md X.KK Wo} {ρ : List B} {a b c e it tg elt : Expr} {es : List Expr} {pos p cpos : Pos} {f g h : W PyData} {lf : W (List PyData)} {kk : Nat} {τ σ : Type} {emb : τ → List B} {emc : σ → List B} {rest : List Stmt} {scope : Scope} {keys : List (Option Expr)} {ks : List Str}
theorem rg_t13 (i j l m : Nat) {x : PyData} {k : PyData → PyData → PyData → PyData → W (Out τ σ)} (h : ∀ u v w z, RS M rest ((((ρ.set i (.d u)).set j (.d v)).set l (.d w)).set m (.d z)) emb emc (k u v w z)) :
    RG (M := M) (gTup X.KK 2 (gCons (gName i) (gCons (gTup X.KK 3 (gCons (gName j) (gCons (gName l) (gCons (gName m) gNil)))) gNil))) ρ x rest emb emc (t13 k x) := ⟨fun t P D z n => by
  unfold t13 at z
  split at z
  · exact dg_t13 ((h _ _ _ _).run t P D z n)
  · exact z.elim⟩
theorem rge_t13 (i j l m : Nat) {x : PyData} {k : PyData → PyData → PyData → PyData → W PyData} (h : ∀ u v w z (s : Shared) (H : Hp) (C : Addr) (cl : List (Str × Addr)) (fp : List Addr), RD (X := Blk X scope s H C cl fp) M elt ((((ρ.set i (.d u)).set j (.d v)).set l (.d w)).set m (.d z)) (k u v w z)) :
    RGe M (gTup X.KK 2 (gCons (gName i) (gCons (gTup X.KK 3 (gCons (gName j) (gCons (gName l) (gCons (gName m) gNil)))) gNil))) ρ x scope elt (t13 k x) := ⟨fun t P z => by
  unfold t13 at z
  split at z
  · exact dg_t13 fun s H C cl fp => (h _ _ _ _ s H C cl fp).run t P z
  · exact z.elim⟩
theorem ri_r3 (E : Ev X kk) (ha : RD M a ρ f) (hb : RD M b ρ g) (hc : RD M c ρ h) (hg : Gl X (Str.ofString "range") := by rfl) (hs : starEach [a, b, c] X.env = (false, eval a X.env) :: starEach [b, c] X.env := by rfl) (hs2 : starEach [b, c] X.env = (false, eval b X.env) :: starEach [c] X.env := by rfl) (hs3 : starEach [c] X.env = (false, eval c X.env) :: starEach [] X.env := by rfl)
    (hp : (backTo pos (starEach [b, c] X.env)).any (·.1) = false := by rfl) : RI M tg (.Call (.Name (Str.ofString "range") p) [a, b, c] [] pos) ρ (rng3 f g h) := ⟨fun t P z σ G H S R r =>
  TiOf.of (pi_range3 hg E.bu.range (pa_cons peT (pa_cons peT (pa_cons peT pa_nil hs3) hs2) hs) hs hp) ((ha.run t _ z) σ G H S _ fun G1 H1 v x t1 s1 d1 z1 => (hb.run t1 _ z1) σ G1 H1 (S.step s1) _ fun G2 H2 w y t2 s2 d2 z2 => (hc.run t2 _ z2) σ G2 H2 ((S.step s1).step s2) _ fun G3 H3 u q t3 s3 d3 z3 => by
    cases x <;> first | exact z3.elim | skip
    cases y <;> first | exact z3.elim | skip
    cases q <;> first | exact z3.elim | skip
    rename_i i j k
    obtain ⟨⟨rfl, b1, b2⟩, z4⟩ := z3
    refine ⟨i, j, -1, (i - j).toNat, by rw [d1.intE, d2.intE, d3.intE], RgC.neg b1.1 b1.2 b2.1 b2.2, ?_⟩
    exact r G3 H3 _ _ t3 ((s1.trans s2).trans s3) wk_rngDn z4)⟩
/-- {..}[e], the dict written there, its values computed -/
theorem rd_dlit (E : Ev X kk) (nd : ks.Nodup) (h0 : ks ≠ []) (few : ks.length ≤ 15) (hr : RP M p ks keys es ρ lf) (hb : RD M b ρ f) (hs : NoSl b := by intro _ _; rfl) : RD M (.Subscript (.Dict keys es p) b pos) ρ (dlitW ks lf f) := ⟨fun t P z =>
  jd_of (pe_dget (by have := E.room.un; omega) peT peT hs) fun σ G H S Q q =>
  (rm_dict nd h0 few hr).run t _ z σ G H S _ fun G1 H1 l o ds t1 s1 hl r z1 => (hb.run t1 _ z1) σ G1 H1 (S.step s1) _ fun G2 H2 v y t2 s2 d2 z2 => by
  cases y <;> first | exact z2.elim | skip
  rename_i s
  have z3 : (match getP ks ds s with | some d => Dw.ret d | none => bad) t2 P := z2
  cases e : getP ks ds s with
  | none => rw [e] at z3; exact z3.elim
  | some d =>
    rw [e] at z3
    obtain ⟨od, vs, rfl, hlen, da⟩ := r
    obtain ⟨u, eu, du⟩ := val_kvs (DeAll.up s2.gg _ _ da) e
    exact ⟨l, u, rfl, .inl ⟨_, Sum.inr s, .inr ⟨od, ((S.step s1).step s2).ok.sub _ _ (s2.gg _ _ hl)⟩, d2.strE, eu.symm⟩, q G2 H2 u d t2 (s1.trans s2) du z3⟩⟩
end
end Dw
end
section
set_option maxRecDepth 100000
set_option maxHeartbeats 4000000
/-! int(x) of a truth value -/
namespace Dw
open PySem PySem.Spec PyProof.Rows L2 Dl
open Dw (ret)
def ointB : PyData → W PyData
  | .int i => ret (.int i)
  | .bool b => ret (.int (if b = true then 1 else 0))
  | _ => bad
theorem ointB_b (b : Bool) {t : Rs} (P : PyData → Rs → Prop) : ointB (.bool b) t P = P (.int (if b = true then 1 else 0)) t := id rfl
theorem ointB_i (b : Int) {t : Rs} (P : PyData → Rs → Prop) : ointB (.int b) t P = P (.int b) t := id rfl
theorem cn_intB {K : KK} {Wo : WO} {M : Md K Wo} {P : PyData → Rs → Prop} {t : Rs} {b : Bool} (p : P (.int (if b = true then 1 else 0)) t) : Cn M (fun xs H Q => (∃ i, xs = [.int i] ∧ Q (.int i) H) ∨ ∃ k, xs = [.bl k] ∧ Q (.int (if k = true then 1 else 0)) H) [.d (.bool b)] t P := fun G H vs k a Q q => by
  obtain ⟨v, rfl, d⟩ := Dl.arg1 a
  exact .inr ⟨b, by rw [d.blE], keep k q (.int _) p⟩
section
variable {X : Cx} {Wo : WO} {M : Md X.KK Wo} {ρ : List B} {a : Expr} {pos p : Pos} {f : W PyData} {kk : Nat}
theorem rd_intB (E : Ev X kk) (ha : RD M a ρ f) (hs : starEach [a] X.env = (false, eval a X.env) :: starEach [] X.env := by rfl) (hg : Gl X (Str.ofString "int") := by rfl) : RD M (.Call (.Name (Str.ofString "int") p) [a] [] pos) ρ (op1 ointB f) := ⟨fun t P z =>
  jd_callTy call_int1 hg E.bu.int boot_int'' (ja_one (ha.run t _ z) (fun x t1 z1 => by
    cases x <;> first | exact z1.elim | exact cn_int z1 | exact cn_intB z1) hs) (by decide) (by decide) hs rfl⟩
end
end Dw
end
section
set_option maxRecDepth 100000
set_option maxHeartbeats 4000000
/-! a draw of the readers that mix with squares: room for fewer draws -/
namespace Dw
open PySem PySem.Spec PyProof.Rows L2 Dl
def FrV (n : Nat) (t : Rs) : Prop := t.ns.length ≤ 63 ∧ 0 ≤ t.draws ∧ t.draws + n < 100000000
theorem FrV.mono {n m : Nat} {t : Rs} (h : FrV n t) (e : m ≤ n) : FrV m t := ⟨h.1, h.2.1, by have := h.2.2; omega⟩
def drawV : List B → W B := fun bs t Q => ∃ m : Int, bs = [.rd, .d (.int m)] ∧ 0 < m ∧ m < 1073741824 ∧ t.ns.length ≤ 63 ∧ 0 ≤ t.draws ∧ t.draws < 100000000 ∧ ∀ (i : Int) (t' : Rs), 0 ≤ i → i < m → t'.ns = t.ns → t'.draws = t.draws + 1 → Q (.d (.int i)) t'
theorem drawV_ap {n : Nat} {m : Int} {t : Rs} {P : B → Rs → Prop} (h : FrV (n + 1) t) (h0 : 0 < m) (h1 : m < 1073741824) (q : ∀ (i : Int) (t' : Rs), 0 ≤ i → i < m → FrV n t' → P (.d (.int i)) t') : drawV [.rd, .d (.int m)] t P :=
  ⟨m, rfl, h0, h1, h.1, h.2.1, by have := h.2.2; omega, fun i t' a b c d => q i t' a b ⟨by rw [c]; exact h.1, by have := h.2.1; omega, by have := h.2.2; omega⟩⟩
end Dw
end
section
set_option maxRecDepth 100000
set_option maxHeartbeats 4000000
namespace Dy
open PySem PySem.Spec PyProof.Rows L2 Dl Dw Dz

/-! ### set(xs), xs a tuple of tuples of ints -/
/-- the set as it is made -/
abbrev nuSet (w : World) : Obj := { cls := .type "set", dict := none, data := .set #[] 0 (.fresh 0 0 (!w.params.followText "set-order")) }
section
variable {P : Program} {w : World} {A : Around} {E : Value → Shared → Prop} {s : Shared}
theorem gone {h : Heap} {b : Addr} (q : h.objs.size ≤ b) : h.get? b = none := by
  cases e : h.get? b with
  | none => rfl
  | some o => exact absurd (Nat.lt_of_lt_of_le (Heap.lt_size e) q) (Nat.lt_irrefl _)
theorem set_of_tups {l : Addr} {its : Array Value} (ks : List (Addr × List Int)) {Q : Value → Shared → Prop} (calm : A.handled = none) (tl : s.heap.IsTuple l its) (ei : its.toList = ks.map fun p => Value.ref p.1)
    (hk : ∀ p ∈ ks, IsT P w s.heap p.2 p.1) (few : ks.length < 64) (room : A.units + 3 < cLine)
    (q : ∀ (h2 : Heap) (tk : Nat) L es ep t, SetTR P w h2 s.heap.objs.size L es ep t → Got ks ks.length L → (∀ b o, s.heap.get? b = some o → h2.get? b = some o) → Q (.ref s.heap.objs.size) { s with heap := h2, toks := tk }) :
    wpAny (model P w) A (call (.type "set") [.ref l]) Q E s := by
  have size : its.size = ks.length := by simpa using congrArg List.length ei
  obtain ⟨c, tail, mro⟩ := F.called_set.mro
  have made := F.called_set.made
  have sub := F.called_set.sub
  refine wpAny_call (codeAny_of_tree ?_)
  show wpAny _ _ (callAny (.type "set") _) _ _ _
  refine wpAny_pure ⟨Code.quiet_builtin _ (by decide +kernel),
    codeAny_builtin F.entry_type_call ?_⟩
  rw [Around.under_plain
    (weight_type_call_type "set" [.ref l] []) rfl]
  have q1 := F.called_set.notType
  have q2 := F.called_set.canCreate
  have q3 := F.typeCall_set_1 (.ref l)
  repeat any_goals first | assumption | wp_step
  refine codeAny_mono (code_set_led1 (.ref l) (E := E)
    (Q₁ := fun obj s1 => obj = .ref s.heap.objs.size ∧ s1 = { s with heap := s.heap.push (nuSet w) }) ⟨rfl, rfl⟩) fun r s1 hr => ?_
  cases r with
  | error e => exact hr
  | ok fl =>
  cases fl with
  | next => exact hr
  | brk => exact hr
  | cont => exact hr
  | ret obj =>
  obtain ⟨rfl, rfl⟩ := hr
  have at1 : (s.heap.push (nuSet w)).get? s.heap.objs.size = some (nuSet w) := Heap.get?_push_size _ rfl
  have ty1 : Shared.TypeIs { s with heap := s.heap.push (nuSet w) } (.ref s.heap.objs.size) "set" := ⟨_, at1, rfl⟩
  have q4 := F.called_set.init.lookup
  have q5 := F.called_set.init.bind (.ref s.heap.objs.size)
  repeat any_goals first | assumption | wp_step
  refine codeAny_mono (codeAny_call_builtin (R := wants (fun r s2 => r = .none ∧ ∃ h2 tk L es ep t, s2 = { s with heap := h2, toks := tk } ∧ SetTR P w h2 s.heap.objs.size L es ep t ∧ Got ks ks.length L ∧ (∀ b o, s.heap.get? b = some o → h2.get? b = some o)) E)
    F.called_set.init.plain F.entry_set_init (check_set_init_1 ty1 ?_)) fun r2 s2 hr2 => ?_
  · obtain ⟨ob, ol, oc, on, od⟩ := tl
    obtain ⟨ocls, odict, odata, oslots⟩ := ob
    simp only at oc od
    subst oc od
    have ol2 : (s.heap.push (nuSet w)).get? l = some { cls := .type "tuple", dict := odict, data := .seq its on, slots := oslots } := Heap.get?_push_of_some _ ol
    have q6 := F.sub_tuple_set
    have q7 := F.sub_tuple_frozenset
    have q8 : (Value.type "tuple" == Value.type "dict") = false := by decide
    have tl1 : (s.heap.push (nuSet w)).IsTuple l its := ⟨_, ol2, rfl, on, rfl⟩
    unfold Builtin.«set.__init__» noKeywords Builtin.Frozenset.updateFrom
    generalize hPI : pyIter = PI
    wp_walk
    subst hPI
    refine wpAny_pyIter_tuple tl1 ?_
    refine wpAny_bind (wpAny_runValue ?_)
    have lt : l < s.heap.objs.size := Heap.lt_size ol
    have calm3 : A.in1.in1.in1.handled = none := by simp [calm]
    have ne : l ≠ (s.heap.push (nuSet w)).objs.size := by
      rw [Heap.size_push]
      exact Nat.ne_of_lt (Nat.lt_succ_of_lt lt)
    have out : s.heap.objs.size ∉ [(s.heap.push (nuSet w)).objs.size, l] := by
      rw [Heap.size_push]
      intro z
      rcases List.mem_cons.mp z with z | z
      · exact absurd z (Nat.ne_of_lt (Nat.lt_succ_self _))
      · exact absurd (List.mem_singleton.mp z) (Nat.ne_of_gt lt)
    have val : ∀ (i : Nat) (v : Value), its[i]? = some v → ∃ p, ks[i]? = some p ∧ v = .ref p.1 := fun i v hv => by
      have z : its.toList[i]? = some v := by rw [Array.getElem?_toList, hv]
      rw [ei, List.getElem?_map] at z
      cases e : ks[i]? with
      | none => rw [e] at z; cases z
      | some p => exact ⟨p, rfl, by rw [e] at z; exact (Option.some.inj z).symm⟩
    refine set_update_tups ((Walks.tuple calm3 _ l ne its).toS) s.heap.objs.size out ks size few val s.heap hk (gone (Nat.le_refl _))
      (fun b hb => gone (by
        rw [List.mem_singleton.mp hb, Heap.size_push]
        exact Nat.le_succ _)) room (its.size - 0) 0 _ (by omega) (Nat.zero_le _) ⟨⟨_, Heap.get?_push_size _ rfl, rfl, rfl⟩, tl1.push _⟩
      (fun b o e => Heap.get?_push_of_some _ (Heap.get?_push_of_some _ e)) ?nuS ?finS
    case nuS => exact ⟨[], #[], 0, _, setTR_fresh (Heap.get?_push_of_some _ at1), Got.zero ks⟩
    case finS =>
      intro s3 L es ep t mv R g kp
      obtain ⟨h3, g3, d3, tk3, os3⟩ := s3
      obtain rfl : g3 = s.gens := mv.gens
      obtain rfl : d3 = s.drawn := mv.drawn
      obtain rfl : os3 = s.os := mv.os
      show wpAny _ _ _ _ _ _
      refine wpAny_pure ?_
      rw [size] at g
      exact wpAny_pure ⟨rfl, h3, tk3, L, es, ep, t, rfl, R, g, kp⟩
  · cases r2 with
    | error e => exact hr2
    | ok fl2 =>
    cases fl2 with
    | next => exact hr2
    | brk => exact hr2
    | cont => exact hr2
    | ret r =>
    obtain ⟨rfl, h2, tk, L, es, ep, t, rfl, R, g, kp⟩ := hr2
    have fin := q h2 tk L es ep t R g kp
    repeat any_goals first | assumption | wp_step
end
end Dy
end
section
set_option maxRecDepth 100000
set_option maxHeartbeats 4000000
namespace Dy
open PySem PySem.Spec PyProof.Rows L2 Dl Dw Dz

/-! ### x in s, s a stored set of tuples of ints, x a tuple of ints: the search that does not add -/
/-- the c-th step of the way of h in a table of mask m -/
abbrev stp (m : Nat) (h : Int) (c : Nat) : SetTable.Probe := nth m (runAt m (SetTable.bits h % (m + 1)) (SetTable.bits h)) c
theorem stp_dm (m : Nat) (h : Int) (c : Nat) : (stp m h c).dummy = none := by
  have all : ∀ (n : Nat) (p : SetTable.Probe), p.dummy = none → (nth m p n).dummy = none := fun n => by
    induction n with
    | zero => exact fun p z => z
    | succ n ih => exact fun p z => ih (adv m p) (by unfold adv; split <;> exact z)
  exact all c _ rfl
theorem stp_add (m : Nat) (h : Int) (c n : Nat) : nth m (stp m h c) n = stp m h (c + n) := (nth_add m c _ n).symm
section
variable {P : Program} {w : World} {A : Around} {E : Value → Shared → Prop} {s : Shared} {a : Addr} {L : List (Addr × List Int)} {es : Array (Int × Value)} {ep : Nat} {t : SetTable}
theorem ask_from (R : SetTR P w s.heap a L es ep t) {x : Addr} {k : List Int} (hx : IsT P w s.heap k x) (room : A.units < cLine) {K : Nat} (few : K < 10 * SetTable.turns t.mask)
    (free : way t.mask (thash P w k) K ∉ t.place.toList) (full : ∀ c, c < K → way t.mask (thash P w k) c ∈ t.place.toList) {Q : SetFound → Shared → Prop}
    (yes : k ∈ L.map (fun p => p.2) → ∀ i, Q (.there (some i)) s) (no : k ∉ L.map (fun p => p.2) → ∀ j, Q (.free j false) s) : ∀ (f c : Nat) (stand : Option SetTable.Probe),
      stand.getD (t.probeStart (thash P w k)) = stp t.mask (thash P w k) c → c ≤ K → K - c < f →
      (∀ (i : Nat) (p : Addr × List Int), L[i]? = some p → p.2 = k → ∃ d, c ≤ d ∧ d < K ∧ t.place.toList[i]? = some (way t.mask (thash P w k) d)) →
      wpAny (model P w) A (setSearchFrom a (.ref x) (thash P w k) false f stand) Q E s
  | 0, _, _, _, _, z, _ => absurd z (Nat.not_lt_zero _)
  | f + 1, c, stand, here, le, lt, met => by
    obtain ⟨ob, o1, o2, o3⟩ := R.ob
    have hashes : ∀ (i : Nat) (p : Addr × List Int), L[i]? = some p → (es[i]?.map (·.1)).getD 0 = thash P w p.2 := fun i p z => by
      rw [R.entry z]
      rfl
    have js : ∀ n, (nth t.mask (stp t.mask (thash P w k) c) n).j = way t.mask (thash P w k) (c + n) := fun n => congrArg SetTable.Probe.j (stp_add _ _ c n)
    have asked := go_spec t R.tab.ris R.tab.dm (fun i => (es[i]?.map (·.1)).getD 0) (thash P w k) (10 * SetTable.turns t.mask) (K - c) _ (stp_dm t.mask (thash P w k) c) (by omega)
      (fun n z => by
        rw [js]
        exact full _ (by omega)) (by
        rw [js]
        have e : c + (K - c) = K := by omega
        rw [e]
        exact free)
    rw [setSearchFrom_succ]
    refine wpAny_bind (wpAny_setState_of o1 o3 R.fits ?_)
    dsimp only
    refine wp_if_neg R.gw ?_
    try refine wpAny_bind (wpAny_pure ?_)
    have pr : ∀ r, SetTable.probe.go t (fun i => (es[i]?.map (·.1)).getD 0) (thash P w k) (10 * SetTable.turns t.mask) (stp t.mask (thash P w k) c) = some r →
        t.probe (fun i => (es[i]?.map (·.1)).getD 0) (thash P w k) (stand.getD (t.probeStart (thash P w k))) = some r := fun r z => by
      rw [here]
      exact z
    rcases asked with ⟨n, i, n1, n2, n3, n4, n5⟩ | ⟨n4, n5⟩
    · rw [pr _ n5]
      dsimp only
      rw [js] at n2 ⊢
      have il : i < L.length := by
        have z1 : i < t.place.toList.length := (List.getElem?_eq_some_iff.mp n2).1
        have z2 := R.tab.sz
        simp only [List.length_map, Array.length_toList] at z1 z2
        omega
      obtain ⟨p, hp⟩ : ∃ p, L[i]? = some p := ⟨_, List.getElem?_eq_getElem il⟩
      have mem : p ∈ L := List.mem_of_getElem? hp
      have live : t.slot (way t.mask (thash P w k) (c + n)) = .live i := slot_live R.tab.ris n2
      have tail : wpAny (model P w) A (searchRest a (.ref x) (thash P w k) false f es t (way t.mask (thash P w k) (c + n)) i (nth t.mask (stp t.mask (thash P w k) c) (n + 1))) Q E s := by
        unfold searchRest
        rw [R.entry hp]
        dsimp only
        refine wpAny_bind (wpAny_holding (wpAny_eqBool_tuple room (R.tup p mem) hx ?_))
        refine wpAny_bind (wpAny_setState_of o1 o3 R.fits ?_)
        dsimp only
        refine wp_if_neg (by simp) ?_
        try refine wpAny_bind (wpAny_pure ?_)
        rw [sameMem]
        dsimp only
        simp only [if_true, live, R.entry hp]
        refine wpAny_bind (wpAny_isSame_ref_self (wpAny_bind (wpAny_pure ?_)))
        simp only [if_true]
        by_cases same : p.2 = k
        · refine wp_if_pos (by simp [same]) ?_
          exact wpAny_pure (yes (List.mem_map.mpr ⟨p, mem, same⟩) i)
        · refine wp_if_neg (by simp [same]) ?_
          refine ask_from R hx room few free full yes no f (c + (n + 1)) _ (stp_add _ _ c (n + 1)) (by omega) (by omega) fun i2 p2 h2 k2 => ?_
          obtain ⟨d, d1, d2, d3⟩ := met i2 p2 h2 k2
          refine ⟨d, ?_, d2, d3⟩
          rcases Nat.lt_trichotomy d (c + n) with z | z | z
          · exfalso
            refine n4 (d - c) i2 (by omega) ?_ ((hashes i2 p2 h2).trans (congrArg (thash P w) k2))
            rw [js]
            have e : c + (d - c) = d := by omega
            rw [e]
            exact d3
          · exfalso
            subst z
            have l2 := slot_live R.tab.ris d3
            rw [live] at l2
            injection l2 with l2
            rw [← l2, hp] at h2
            exact same ((congrArg Prod.snd (Option.some.inj h2)).trans k2)
          · omega
      by_cases led : t.led = true
      · refine wp_if_neg (by simp [led]) ?_
        try refine wpAny_bind (wpAny_pure ?_)
        exact tail
      · refine wp_if_pos (by simp [led]) ?_
        refine wpAny_bind (seen_tup hx (fun y hy => ?_) ?_)
        · obtain ⟨e, he, rfl⟩ := List.mem_map.mp hy
          have e1 : e ∈ es := by
            have : e ∈ es ∧ e.1 = thash P w k := by simpa using he
            exact this.1
          have e2 : e ∈ es.toList := by simpa using e1
          rw [R.rows] at e2
          obtain ⟨r, hr, rfl⟩ := List.mem_map.mp e2
          exact ⟨r.2, r.1, rfl, R.tup r hr⟩
        · refine wp_if_neg (by decide) ?_
          try refine wpAny_bind (wpAny_pure ?_)
          exact tail
    · rw [pr _ n5]
      dsimp only
      refine wpAny_pure (no (fun hm => ?_) _)
      obtain ⟨p, hp, ek⟩ := List.mem_map.mp hm
      obtain ⟨i, hi, ei⟩ := List.getElem_of_mem hp
      have at_ : L[i]? = some p := by rw [List.getElem?_eq_getElem hi, ei]
      obtain ⟨d, d1, d2, d3⟩ := met i p at_ ek
      refine n4 (d - c) i (by omega) ?_ ((hashes i p at_).trans (congrArg (thash P w) ek))
      rw [js]
      have e : c + (d - c) = d := by omega
      rw [e]
      exact d3
theorem ask_at (R : SetTR P w s.heap a L es ep t) {x : Addr} {k : List Int} (hx : IsT P w s.heap k x) (room : A.units < cLine) {Q : SetFound → Shared → Prop}
    (yes : k ∈ L.map (fun p => p.2) → ∀ i, Q (.there (some i)) s) (no : k ∉ L.map (fun p => p.2) → ∀ j, Q (.free j false) s) : wpAny (model P w) A (setSearch a (.ref x) (thash P w k)) Q E s := by
  have rm := R.room
  have sz := R.tab.sz
  rw [List.length_map] at sz
  obtain ⟨K, few, free, full⟩ := R.tab.first (by rw [List.length_map]; omega) (thash P w k)
  have big : K < 100000 := by
    have : SetTable.turns t.mask ≤ 142 := by
      unfold SetTable.turns
      rcases R.tab.mok with e | e | e <;> omega
    omega
  unfold setSearch
  refine ask_from R hx room few free full yes no 100000 0 none rfl (Nat.zero_le _) (by omega) fun i p hp hk => ?_
  have il : i < L.length := (List.getElem?_eq_some_iff.mp hp).1
  have ip : i < t.place.toList.length := by
    rw [Array.length_toList]
    omega
  obtain ⟨c, c1, c2⟩ := R.tab.before free (i := i) (by rw [List.getElem?_map, hp, ← hk] <;> rfl) (List.getElem?_eq_getElem ip)
  exact ⟨c, Nat.zero_le _, c1, by rw [List.getElem?_eq_getElem ip, c2]⟩
end
end Dy
end
section
set_option maxRecDepth 100000
set_option maxHeartbeats 4000000
namespace Dy
open PySem PySem.Spec PyProof.Rows L2 Dl Dw Dz
section
variable {P : Program} {w : World} {A : Around} {E : Value → Shared → Prop} {s : Shared} {a : Addr} {L : List (Addr × List Int)} {es : Array (Int × Value)} {ep : Nat} {t : SetTable}
theorem find_tup (R : SetTR P w s.heap a L es ep t) {x : Addr} {k : List Int} (hx : IsT P w s.heap k x) (room : A.units < cLine) {Q : Option Nat → Shared → Prop}
    (q : ∀ r : Option Nat, r.isSome = decide (k ∈ L.map (fun p => p.2)) → Q r s) : wpAny (model P w) A (setFind a (.ref x) (thash P w k)) Q E s := by
  obtain ⟨ob, o1, o2, o3⟩ := R.ob
  unfold setFind setFindIn
  refine wpAny_bind (wpAny_setState_of o1 o3 R.fits ?_)
  dsimp only
  refine wp_if_neg (by unfold byScan; simp [Value.scannable]) ?_
  try refine wpAny_bind (wpAny_pure ?_)
  refine wpAny_bind (ask_at R hx room (fun z i => ?_) fun z j => ?_)
  · exact wpAny_pure (q _ (by simp only [Option.isSome_some, z, decide_true]))
  · exact wpAny_pure (q _ (by simp only [Option.isSome_none, z, decide_false]))
theorem has_tup (R : SetTR P w s.heap a L es ep t) {x : Addr} {k : List Int} (hx : IsT P w s.heap k x) (room : A.units + 3 < cLine) {Q : Bool → Shared → Prop}
    (q : Q (decide (k ∈ L.map (fun p => p.2))) { s with toks := s.toks + (k.length + 1) }) : wpAny (model P w) A (contains (.ref a) (.ref x)) Q E s := by
  obtain ⟨ob, o1, o2, o3⟩ := id R.ob
  have ty : s.TypeIs (.ref a) "set" := ⟨_, o1, o2.1⟩
  unfold contains
  try with_reducible refine wpAny_holding ?_
  refine wpAny_bind (wpAny_specialOf ty
    F.slot_set_contains.lookup ?_)
  refine wp_if_neg (by rw [beq_builtin_none]; decide) ?_
  refine wpAny_bind (wpAny_callSpecialUnlessNone?_slot
    (name := Str.ofString "__contains__") ty F.slot_set_contains (wpAny_call_entry F.slot_set_contains ty entry_set_contains ?_ (F.args_set_contains_2 _ _)))
  unfold Builtin.«frozenset.__contains__» Builtin.Frozenset.oneOther
    Builtin.Frozenset.addrOf
  simp only [List.isEmpty_nil, bind_assoc]
  unfold Builtin.Frozenset.withSetAsKey setContains
  refine wpAny_bind (wpAny_pure ?_)
  try dsimp only
  refine wpAny_bind (wpAny_pure ?_)
  try dsimp only
  refine wpAny_bind (wpAny_tryCatch (wpAny_holding (wpAny_bind (wpAny_pyHash_tuple (by simp [Around.in1] at room ⊢; omega) hx ?_))))
  refine wpAny_bind (find_tup (s := { s with toks := s.toks + (k.length + 1) }) (R.keep (fun o e => e) fun p hp => R.tup p hp) hx (by simp [Around.in1] at room ⊢; omega) fun r hr => ?_)
  refine wpAny_pure ?_
  rw [hr]
  first
    | exact wpAny_pure ⟨_, rfl, wpAny_truthy_bool q⟩
    | exact wpAny_pure ⟨_, rfl, wpAny_truthy_bool (wpAny_pure q)⟩
end
section
variable {X : Cx}
/-- x in held, x not in held -/
def rInT (K : KK) (neg : Bool) : V → V → Hp → VK → Prop := fun x y H Q => ∃ (c a : Addr) (k : List Int) (L : List (Addr × List Int)), x = V.ref c ∧ y = V.ref a ∧ SqT K H c (k.map V.int) ∧ H a = some (SetTO K.P K.w a L) ∧ (∀ p ∈ L, SqT K H p.1 (p.2.map V.int)) ∧
  Q (.bl (if neg then !decide (k ∈ L.map (fun p => p.2)) else decide (k ∈ L.map (fun p => p.2)))) H
theorem or_tin (room : X.A.units + 3 < cLine) : OpR X (compareOp .In) (rInT X.KK false) := by
  intro pins s σ H x y v u Q I rx ry h
  obtain ⟨c, a, k, L, rfl, rfl, hc, ha, hk, q⟩ := h
  cases rx
  cases ry
  have R0 : SetT0 X.prog X.w s.heap a L := (I.hok a _ ha).1
  obtain ⟨es, ep, t, R⟩ := R0.full fun p hp => I.isT (hk p hp)
  show wpAny _ _ (do return Value.bool (← contains (.ref a) (.ref c))) _ _ s
  refine wpAny_bind (has_tup R (I.isT hc) room (wpAny_pure ⟨.bl (decide (k ∈ L.map (fun p : Addr × List Int => p.2))), H, I.tok _, rfl, q⟩))
theorem or_tnin (room : X.A.units + 3 < cLine) : OpR X (compareOp .NotIn) (rInT X.KK true) := by
  intro pins s σ H x y v u Q I rx ry h
  obtain ⟨c, a, k, L, rfl, rfl, hc, ha, hk, q⟩ := h
  cases rx
  cases ry
  have R0 : SetT0 X.prog X.w s.heap a L := (I.hok a _ ha).1
  obtain ⟨es, ep, t, R⟩ := R0.full fun p hp => I.isT (hk p hp)
  show wpAny _ _ (do return Value.bool (!(← contains (.ref a) (.ref c)))) _ _ s
  refine wpAny_bind (has_tup R (I.isT hc) room (wpAny_pure ⟨.bl (!decide (k ∈ L.map (fun p : Addr × List Int => p.2))), H, I.tok _, rfl, q⟩))
/-- set(xs), xs a list or a tuple of tuples of ints -/
def rSetOfQ (K : KK) : List V → Hp → VK → Prop := fun xs H Q => ∃ (l : Addr) (ks : List (Addr × List Int)), xs = [V.ref l] ∧ (SqL K H l (ks.map fun p => V.ref p.1) ∨ SqT K H l (ks.map fun p => V.ref p.1)) ∧ (∀ p ∈ ks, SqT K H p.1 (p.2.map V.int)) ∧ ks.length < 64 ∧
  ∀ a L, H a = none → (∀ p ∈ L, p ∈ ks) → (∀ p ∈ ks, p.2 ∈ L.map (fun p => p.2)) → Q (.ref a) (upd H a (SetTO K.P K.w a L))
theorem cr_setOfQ (hc : X.calm = true) (hu : X.A.units + 64 < cLine) : CallR X (.type "set") (rSetOfQ X.KK) := by
  intro pins s σ H xs us Q I r h
  obtain ⟨l, ks, rfl, hl, hk, hf, q⟩ := h
  rcases hl with hl | hl
  · exact cr_setOfT hc hu pins s σ H _ us Q I r ⟨l, ks, rfl, hl, hk, hf, q⟩
  · rw [Vals.ref1 r]
    obtain ⟨its, rv, pl, hz⟩ := I.tuple hl
    have fresh : H s.heap.objs.size = none := I.hok.fresh (Nat.le_refl _)
    refine set_of_tups (P := X.prog) (w := X.w) ks (I.ok.hd hc) pl (by simpa using refs_of_vals rv) (fun p hp => I.isT (hk p hp)) hf (by omega) fun h2 tk L es ep t R g k => ?_
    exact ⟨.ref s.heap.objs.size, upd H s.heap.objs.size (SetTO X.prog X.w s.heap.objs.size L), I.laid (t' := tk) k (Nat.le_refl _) (setTO_new R.t0), rfl,
      q _ L fresh (fun p hp => List.mem_of_mem_take (g.sub p hp)) fun p hp => g.all p (by rw [List.take_length]; exact hp)⟩
end

/-! ### the mirrors' words -/
/-- what is walked once: a list or a tuple -/
def seqD : PyData → Option (List PyData)
  | .list xs => some xs
  | .tuple xs => some xs
  | _ => none
/-- x in s: s a set of tuples of ints -/
def setRows : PyData → Option (List (List Int))
  | .dict [(.bool true, .list rs)] => intRows rs
  | _ => none
theorem setRows_setD (L : List (List Int)) : setRows (setD L) = some L := by
  show intRows (L.map rowD) = some L
  exact intRows_map L
/-- set(xs) as data: its rows in any order -/
def osetW (x : PyData) : W PyData := fun t P => ∃ nss, (seqD x).bind intRows = some nss ∧ nss.length < 64 ∧ ∀ L : List (List Int), (∀ r, r ∈ L ↔ r ∈ nss) → P (setD L) t
def rowOf : PyData → Option (List Int)
  | .tuple ks => intsOf ks
  | _ => none
def oinS (neg : Bool) (x y : PyData) : W PyData := fun t P => ∃ k L, rowOf x = some k ∧ setRows y = some L ∧ P (.bool (if neg then !decide (k ∈ L) else decide (k ∈ L))) t
def sdQ (f : W PyData) : W (List PyData) := bnd f fun x => match (seqD x).bind intRows with
  | some nss => need (nss.length < 64 ∧ ∀ ns ∈ nss, ns ≠ []) (Dw.ret ((sdd nss).map iRow))
  | none => bad
end Dy
namespace Dy
open PySem PySem.Spec PyProof.Rows L2 Dl Dw Dz
section
variable {X : Cx} {Wo : WO} {M : Md X.KK Wo} {ρ : List B} {a b e : Expr} {f g : W PyData} {kk : Nat} {pos pos2 p1 p2 : Pos}
theorem setRows_some : ∀ {y : PyData} {L : List (List Int)}, setRows y = some L → y = setD L := fun {y L} h => by
  unfold setRows at h
  split at h
  · rename_i rs
    rw [intRows_some h]
    rfl
  · cases h
theorem De.setE {K : KK} {G : Hp} {v : V} {L : List (List Int)} (h : De K G v (setD L)) : ∃ (a : Addr) (L2 : List (Addr × List Int)), v = .ref a ∧ G a = some (SetTO K.P K.w a L2) ∧ (∀ p ∈ L2, SqT K G p.1 (p.2.map V.int)) ∧ L2.map (fun p => p.2) = L := by
  generalize e : setD L = d at h
  cases h with
  | setO ha hk =>
    refine ⟨_, _, rfl, ha, hk, ?_⟩
    have e2 := congrArg setRows e
    rw [setRows_setD, setRows_setD] at e2
    exact (Option.some.inj e2).symm
  | dctO ha hk =>
    unfold setD dctD at e
    injection e with e
    injection e with e _
    injection e with e _
    cases e
  | obj ha hf =>
    injection e with e
    injection e with e _
    injection e with e _
    cases e
  | exc ha hd hf =>
    injection e with e
    injection e with e _
    injection e with e _
    cases e
  | _ => cases e
theorem ob_inS {K : KK} {M : Md K Wo} {neg : Bool} : Ob M (rInT K neg) (oinS neg) := fun x y t P z => fun G H v w k hv hw Q q => by
  obtain ⟨ns, L, en, e, z⟩ := z
  cases x with
  | tuple ks =>
    obtain rfl := setRows_some e
    obtain rfl := intsOf_some en
    obtain ⟨c, vs, rfl, hc, da⟩ := hv.tupE
    obtain ⟨b, L2, rfl, hb, hk, rfl⟩ := De.setE hw
    refine ⟨c, b, ns, L2, rfl, rfl, ?_, k.sub _ _ hb, fun p hp => sqt_up k.sub (hk p hp), keep k q (.bl _) z⟩
    rw [← da.ints]
    exact sqt_up k.sub hc
  | _ => cases en
theorem Ev.u3 (E : Ev X kk) : X.A.units + 3 < cLine := by have := E.room.un; omega
theorem rd_inS (E : Ev X kk) (ha : RD M a ρ f) (hb : RD M b ρ g) (hm : behindInMarks .In b = false := by rfl) : RD M (.Compare a [.In] [b] pos) ρ (op2 (oinS false) f g) := rd_cmp (r := rInT X.KK false) (or_tin (Ev.u3 E)) hm ob_inS ha hb
theorem rd_ninS (E : Ev X kk) (ha : RD M a ρ f) (hb : RD M b ρ g) (hm : behindInMarks .NotIn b = false := by rfl) : RD M (.Compare a [.NotIn] [b] pos) ρ (op2 (oinS true) f g) := rd_cmp (r := rInT X.KK true) (or_tnin (Ev.u3 E)) hm ob_inS ha hb
theorem rt_inS (E : Ev X kk) (ha : RD M a ρ f) (hb : RD M b ρ g) (hm : behindInMarks .In b = false := by rfl) : RT M (.Compare a [.In] [b] pos) ρ (bnd (op2 (oinS false) f g) asB) := rt_cmp (r := rInT X.KK false) (or_tin (Ev.u3 E)) hm ob_inS ha hb
theorem rt_ninS (E : Ev X kk) (ha : RD M a ρ f) (hb : RD M b ρ g) (hm : behindInMarks .NotIn b = false := by rfl) : RT M (.Compare a [.NotIn] [b] pos) ρ (bnd (op2 (oinS true) f g) asB) := rt_cmp (r := rInT X.KK true) (or_tnin (Ev.u3 E)) hm ob_inS ha hb
/-- a list or tuple of rows, in the heap -/
theorem seq_rows {K : KK} {G H : Hp} (sub : Same G H) {v : V} {x : PyData} {nss : List (List Int)} (d : De K G v x) (e : (seqD x).bind intRows = some nss) : ∃ (l : Addr) (ks : List (Addr × List Int)), v = .ref l ∧
    (SqL K H l (ks.map fun p => V.ref p.1) ∨ SqT K H l (ks.map fun p => V.ref p.1)) ∧ ks.map (·.2) = nss ∧ ∀ p ∈ ks, SqT K G p.1 (p.2.map V.int) := by
  cases x with
  | list xs =>
    obtain rfl := intRows_some e
    obtain ⟨l, ws, rfl, st, da⟩ := d.lstE
    obtain ⟨ks, rfl, e2, e3⟩ := rows_of da
    exact ⟨l, ks, rfl, .inl (.inl (.inl (sub _ _ st))), e2, e3⟩
  | tuple xs =>
    obtain rfl := intRows_some e
    obtain ⟨l, ws, rfl, st, da⟩ := d.tupE
    obtain ⟨ks, rfl, e2, e3⟩ := rows_of da
    exact ⟨l, ks, rfl, .inr (sqt_up sub st), e2, e3⟩
  | _ => cases e
/-- set(xs) as data -/
theorem rd_setQ (E : Ev X kk) (ha : RD M e ρ f) (hg2 : Gl X "set" := by rfl) (h3 : starEach [e] X.env = (false, eval e X.env) :: starEach [] X.env := by rfl) : RD M (.Call (.Name "set" p2) [e] [] pos2) ρ (op1 osetW f) := ⟨fun t P z =>
  jd_of (pe_callTy (cr_setOfQ E.calm (by have := E.room.un; omega)) hg2 E.bu.set boot_set' (pa_cons peT pa_nil h3) (by decide) (by decide) h3 rfl) fun σ G H S Q q =>
    (ha.run t _ z) σ G H S _ fun G1 H1 v x t1 s1 d1 ⟨nss, en, few, z1⟩ => by
      have k1 := (S.step s1).ok
      obtain ⟨l, ks, rfl, st, e2, e3⟩ := seq_rows k1.sub d1 en
      have hlen : ks.length = nss.length := by rw [← e2, List.length_map]
      refine ⟨l, ks, rfl, st, fun p hp => sqt_up k1.sub (e3 p hp), by omega, fun a L ha sub sub2 => ?_⟩
      have s2 := k1.lay (o := SetTO X.prog X.w a L) ha (fun _ z => by unfold SetTO at z; cases z)
      refine q _ _ _ (setD (L.map fun p => p.2)) t1 (s1.trans s2) (.setO upd_same fun p hp => sqt_up s2.gg (e3 p (sub p hp))) (z1 _ fun r => ?_)
      rw [← e2]
      constructor
      · intro h
        obtain ⟨p, hp, rfl⟩ := List.mem_map.mp h
        exact List.mem_map.mpr ⟨p, sub p hp, rfl⟩
      · intro h
        obtain ⟨p, hp, rfl⟩ := List.mem_map.mp h
        exact sub2 p hp⟩
/-- sorted(set(xs)) -/
theorem rl_sortedSetQ (E : Ev X kk) (ha : RD M e ρ f) (hg1 : Gl X "sorted" := by rfl) (hg2 : Gl X "set" := by rfl) (h3 : starEach [e] X.env = (false, eval e X.env) :: starEach [] X.env := by rfl)
    (h4 : starEach [.Call (.Name "set" p2) [e] [] pos2] X.env = (false, eval (.Call (.Name "set" p2) [e] [] pos2) X.env) :: starEach [] X.env := by rfl) : RL M (.Call (.Name "sorted" p1) [.Call (.Name "set" p2) [e] [] pos2] [] pos) ρ (sdQ f) := ⟨fun t P z =>
  jl_of (pe_callB (cr_sortedI E.calm) hg1 E.bu.sorted boot_sorted' (pa_cons (pe_callTy (cr_setOfQ E.calm (by have := E.room.un; omega)) hg2 E.bu.set boot_set' (pa_cons peT pa_nil h3) (by decide) (by decide) h3 rfl) pa_nil h4) (by decide) (by decide) h4 rfl) fun σ G H S Q q =>
    (ha.run t _ z) σ G H S _ fun G1 H1 v x t1 s1 d1 z1 => by
      cases en : (seqD x).bind intRows with
      | none =>
        have z2 : (match (seqD x).bind intRows with | some nss => need (nss.length < 64 ∧ ∀ ns ∈ nss, ns ≠ []) (Dw.ret ((sdd nss).map iRow)) | none => bad) t1 P := z1
        rw [en] at z2
        exact z2.elim
      | some nss =>
      have z2 : (match (seqD x).bind intRows with | some nss => need (nss.length < 64 ∧ ∀ ns ∈ nss, ns ≠ []) (Dw.ret ((sdd nss).map iRow)) | none => bad) t1 P := z1
      rw [en] at z2
      obtain ⟨⟨few, ne⟩, p⟩ := z2
      have k1 := (S.step s1).ok
      obtain ⟨l, ks, rfl, st, e2, e3⟩ := seq_rows k1.sub d1 en
      have hlen : ks.length = nss.length := by rw [← e2, List.length_map]
      refine ⟨l, ks, rfl, st, fun p hp => sqt_up k1.sub (e3 p hp), by omega, fun a L ha sub sub' => ?_⟩
      have s2 := k1.layO (o := SetTO X.prog X.w a L) ha
      have k2 := k1.step s2
      have in2 : ∀ q ∈ L, q.2 ∈ nss := fun q hq => by
        rw [← e2]
        exact List.mem_map.mpr ⟨q, sub q hq, rfl⟩
      refine ⟨a, L, rfl, upd_same, fun p hp => ⟨sqt_up s2.sub (e3 p (sub p hp)), ne _ (in2 p hp)⟩, fun L2 p2 sub2 asc mem len2 hp2 => ?_⟩
      have s3 := k2.layO (o := .lst (L2.map fun q => V.ref q.1)) hp2
      have eq : L2.map (·.2) = sdd nss := asc_uniq asc (asc_sdd nss) fun x => by
        rw [mem x, mem_sdd]
        constructor
        · intro h
          obtain ⟨q, hq, rfl⟩ := List.mem_map.mp h
          exact in2 q hq
        · intro h
          rw [← e2] at h
          obtain ⟨q, hq, rfl⟩ := List.mem_map.mp h
          exact sub' q hq
      have p' : P ((L2.map (·.2)).map fun ns => .tuple (ns.map PyData.int)) t1 := by
        rw [eq]
        exact p
      exact q G1 _ p2 _ _ t1 (s1.trans (s2.trans s3)) (fresh_of (s1.trans s2) hp2) (none_of k2 hp2) upd_same (rows_back L2 fun r hr => e3 r (sub r (sub2 r hr))) p'⟩
end
end Dy
end
section
set_option maxRecDepth 100000
set_option maxHeartbeats 4000000
namespace Dy
open PySem PySem.Spec PyProof.Rows L2 Dl Dw Dz

/-! ### own classes over data -/
/-- what is known of the class at C -/
structure Kls (K : PySem.W.Frag) (C : Addr) : Prop where
  cl : Cls K C
  ha : PySem.W.findIn K (.ref C) "__class__" = some (some (.builtin "object.__class__"))
  hn : PySem.W.specialIn K (.builtin "object.__class__") "__get__" = some (some (.builtin "getset_descriptor.__get__"))
  ht : PySem.W.takesIn K (.builtin "object.__class__") = some true
  hm : PySem.W.mroIn K C (.type "object") = some true
  sf : PySem.W.selfFirst K C = true
  ne : PySem.W.findIn K (.ref C) "__ne__" = some (some (.builtin "object.__ne__"))
  ki : PySem.W.kitOne K (.ref C) (.ref C) = some true
/-- a method, self and n further arguments -/
structure MDef (P : Program) (w : World) (K : PySem.W.Frag) (Wo : WO) (mg : Str → Option Value) (base : Heap) (k : Nat) (C : Addr) (m : Str) (n : Nat) (S : List B → Rs → (B → Rs → Prop) → Prop) : Prop where
  ex : ∃ (f : Addr) (fd : FuncData) (ps : List Str), FnOk P w K mg base CX0 k f fd ps (spD (kkOf P w K) Wo n S) ∧ Meth K C m f ∧ Binds K fd ps []
structure PDef (P : Program) (w : World) (K : PySem.W.Frag) (Wo : WO) (mg : Str → Option Value) (base : Heap) (k : Nat) (C : Addr) (m : Str) (S : List B → Rs → (B → Rs → Prop) → Prop) : Prop where
  ex : ∃ (p f : Addr) (fd : FuncData) (ps : List Str), FnOk P w K mg base CX0 k f fd ps (spD (kkOf P w K) Wo 1 S) ∧ PropOf K C m p f ∧ Binds K fd ps []
/-- what __init__ promises of the object at a -/
def spI (K : KK) (Wo : WO) (C : Addr) (n : Nat) (S : List B → Rs → (List (PyData × PyData) → Rs → Prop) → Prop) : Sp := fun vs H Q _ => ∃ (M : Md K Wo) (G H1 : Hp) (a dx : Addr) (ws : List V) (bs : List B) (t : Rs) (P : List (PyData × PyData) → Rs → Prop),
  vs = .ref a :: ws ∧ Ok M t G H1 ∧ H1 a = none ∧ H1 dx = none ∧ dx ≠ a ∧ H = upd (upd H1 dx (.own a)) a (.ins C dx []) ∧ ArgAll M G ws bs ∧ bs.length = n ∧ S bs t P ∧
  ∀ (G' H' : Hp) (dx' : Addr) (fs : List (Str × V)) (ds : List (PyData × PyData)) (t' : Rs), Stp M t' G H1 G' H' → G' a = none → H' a = some (.ins C dx' fs) → DeF K G' fs ds → P ds t' → Q .non H'
structure IDef (P : Program) (w : World) (K : PySem.W.Frag) (Wo : WO) (mg : Str → Option Value) (base : Heap) (k : Nat) (x : Str) (C : Addr) (n : Nat) (S : List B → Rs → (List (PyData × PyData) → Rs → Prop) → Prop) : Prop where
  ex : ∃ (f : Addr) (fd : FuncData) (ps : List Str), FnOk P w K mg base CX0 k f fd ps (spI (kkOf P w K) Wo C n S) ∧ Mk K C f ∧ mg x = some (.ref C) ∧ Binds K fd ps []
theorem MDef.mono {P : Program} {w : World} {K : PySem.W.Frag} {Wo : WO} {mg : Str → Option Value} {base : Heap} {k j : Nat} {C : Addr} {m : Str} {n : Nat} {S : List B → Rs → (B → Rs → Prop) → Prop} (D : MDef P w K Wo mg base k C m n S) (h : k ≤ j) : MDef P w K Wo mg base j C m n S := by
  obtain ⟨f, fd, ps, F, r⟩ := D.ex
  exact ⟨f, fd, ps, F.mono h, r⟩
theorem PDef.mono {P : Program} {w : World} {K : PySem.W.Frag} {Wo : WO} {mg : Str → Option Value} {base : Heap} {k j : Nat} {C : Addr} {m : Str} {S : List B → Rs → (B → Rs → Prop) → Prop} (D : PDef P w K Wo mg base k C m S) (h : k ≤ j) : PDef P w K Wo mg base j C m S := by
  obtain ⟨p, f, fd, ps, F, r⟩ := D.ex
  exact ⟨p, f, fd, ps, F.mono h, r⟩
theorem IDef.mono {P : Program} {w : World} {K : PySem.W.Frag} {Wo : WO} {mg : Str → Option Value} {base : Heap} {k j : Nat} {C : Addr} {x : Str} {n : Nat} {S : List B → Rs → (List (PyData × PyData) → Rs → Prop) → Prop} (D : IDef P w K Wo mg base k x C n S) (h : k ≤ j) : IDef P w K Wo mg base j x C n S := by
  obtain ⟨f, fd, ps, F, r⟩ := D.ex
  exact ⟨f, fd, ps, F.mono h, r⟩

/-! ### fields -/
def lookF (f : Str) : List (PyData × PyData) → Option PyData
  | [] => none
  | (.str g, d) :: r => if f = g then some d else lookF f r
  | _ :: r => lookF f r
def putD (f : Str) (d : PyData) : List (PyData × PyData) → List (PyData × PyData)
  | [] => [(.str f, d)]
  | (.str g, x) :: r => if g = f then (.str g, d) :: r else (.str g, x) :: putD f d r
  | z :: r => z :: putD f d r
section
variable {K : KK} {G : Hp}
theorem DeF.look {f : Str} : ∀ {fs : List (Str × V)} {ds : List (PyData × PyData)}, DeF K G fs ds → ∀ d, lookF f ds = some d → ∃ v, fs.lookup f = some v ∧ De K G v d
  | _, _, .nil, d, e => by cases e
  | _, _, .cons (x := x) a b, d, e => by
    rw [lookF] at e
    by_cases h : f = x
    · rw [if_pos h] at e
      cases e
      refine ⟨_, ?_, a⟩
      simp only [List.lookup, beq_iff_eq.mpr h]
    · rw [if_neg h] at e
      obtain ⟨v, q, d1⟩ := DeF.look b d e
      refine ⟨v, ?_, d1⟩
      have hb : (f == x) = false := by simpa using h
      simp only [List.lookup, hb]
      exact q
theorem DeF.lookN {f : Str} : ∀ {fs : List (Str × V)} {ds : List (PyData × PyData)}, DeF K G fs ds → lookF f ds = none → fs.lookup f = none
  | _, _, .nil, e => rfl
  | _, _, .cons (x := x) a b, e => by
    rw [lookF] at e
    by_cases h : f = x
    · rw [if_pos h] at e
      cases e
    · rw [if_neg h] at e
      have hb : (f == x) = false := by simpa using h
      simp only [List.lookup, hb]
      exact DeF.lookN b e
theorem DeF.put {f : Str} {v : V} {d : PyData} (z : De K G v d) : ∀ {fs : List (Str × V)} {ds : List (PyData × PyData)}, DeF K G fs ds → DeF K G (putF f v fs) (putD f d ds)
  | _, _, .nil => .cons z .nil
  | _, _, .cons (x := x) a b => by
    rw [putF, putD]
    by_cases h : x = f
    · rw [if_pos h, if_pos h]
      exact .cons z b
    · rw [if_neg h, if_neg h]
      exact .cons a (DeF.put z b)
theorem DeF.len : ∀ {fs : List (Str × V)} {ds : List (PyData × PyData)}, DeF K G fs ds → fs.length = ds.length
  | _, _, .nil => rfl
  | _, _, .cons a b => by rw [List.length_cons, List.length_cons, DeF.len b]
theorem De.objE {v : V} {C : Addr} {ds : List (PyData × PyData)} (h : De K G v (objD C ds)) : ∃ (a dx : Addr) (fs : List (Str × V)), v = .ref a ∧ G a = some (.ins C dx fs) ∧ DeF K G fs ds := by
  generalize e : objD C ds = d at h
  cases h with
  | obj ha hf =>
    unfold objD at e
    injection e with e
    injection e with e1 e2
    injection e1 with e1 _
    injection e1 with e1
    have e3 := Int.ofNat.inj e1
    subst e3 e2
    exact ⟨_, _, _, rfl, ha, hf⟩
  | dctO ha hk =>
    unfold objD dctD at e
    injection e with e
    injection e with e _
    injection e with e _
    cases e
  | setO ha hk =>
    unfold objD setD at e
    injection e with e
    injection e with e _
    injection e with e _
    cases e
  | exc ha hd hf =>
    unfold objD excD at e
    injection e with e
    injection e with e1 e2
    injection e1 with _ e1
    cases e1
  | _ => cases e
/-- data are never NotImplemented -/
theorem De.back {v : V} {d : PyData} (h : De K G v d) {u : Value} (r : RelV v u) : u ≠ .notImplemented := by
  intro z
  subst z
  cases h with
  | int i =>
    obtain ⟨t, e⟩ := r
    cases e
  | str i =>
    obtain ⟨t, e⟩ := r
    cases e
  | _ => cases r
end
/-- an object of the class at C whose fields don't hide the name m -/
def okM (C : Addr) (m : Str) (x : PyData) : Prop := ∃ ds, x = objD C ds ∧ lookF m ds = none
def isC (C : Addr) (x : PyData) : Prop := ∃ ds, x = objD C ds
/-- x.f -/
def fldW (C : Addr) (f : Str) (x : PyData) : W PyData := fun t P => ∃ ds d, x = objD C ds ∧ lookF f ds = some d ∧ P d t
/-- x.m(..) -/
def methW (C : Addr) (m : Str) (n : Nat) (h : List B → W B) (f : W PyData) (af : W (List B)) : W PyData := bnd f fun x => need (okM C m x) (bnd af fun bs => need (bs.length + 1 = n) (bnd (h (.d x :: bs)) asD))
def propW (C : Addr) (h : List B → W B) (x : PyData) : W PyData := need (isC C x) (bnd (h [.d x]) asD)
/-- an operator of own classes -/
def opW (C : Addr) (h : List B → W B) (x y : PyData) : W PyData := need (isC C x ∧ isC C y) (bnd (h [.d x, .d y]) asD)
def neW (C : Addr) (h : List B → W B) (x y : PyData) : W PyData := need (isC C x ∧ isC C y) (bnd (bnd (h [.d x, .d y]) asD) onot)
def lenW (C : Addr) (h : List B → W B) (x : PyData) : W PyData := need (isC C x) (bnd (bnd (h [.d x]) asD) fun y => match y with
  | .int i => need (0 ≤ i ∧ i < 2 ^ 63) (Dw.ret (.int i))
  | _ => bad)
/-- C(..) -/
def mkW (C : Addr) (i : List B → W (List (PyData × PyData))) (bs : List B) : W PyData := bnd (i bs) fun ds => Dw.ret (objD C ds)
def isiW (C : Addr) (x : PyData) : W PyData := need (isC C x) (Dw.ret (.bool true))
end Dy
end
section
set_option maxRecDepth 100000
set_option maxHeartbeats 4000000
namespace Dy
open PySem PySem.Spec PyProof.Rows L2 Dl Dw Dz
section
variable {X : Cx} {Wo : WO} {M : Md X.KK Wo} {ρ : List B} {a b e o : Expr} {es : List Expr} {f g : W PyData} {af : W (List B)} {kk k n : Nat} {pos p1 apos : Pos} {C : Addr} {m x : Str} {h : List B → W B}
/-- what an own method promises, asked as an operation on values -/
def rB (C : Addr) (sp : Sp) : R2 := fun x y H Q => ∃ (a b dx dy : Addr) (fs gs : List (Str × V)), x = .ref a ∧ y = .ref b ∧ H a = some (.ins C dx fs) ∧ H b = some (.ins C dy gs) ∧ sp [x, y] H (fun v H2 => Q v H2 ∧ ∀ u, RelV v u → u ≠ .notImplemented) E0
/-- the callee runs, what comes back is handed on -/
theorem run_back {pins : List (Addr × Obj)} {σ : L2.St} {H : Hp} {s : Shared} {Q : VK} {us : List Value} {vs : List V} {f : Addr} {fd : FuncData} {ps : List Str} {sp : Sp} {A : Around} {Y : Cx} (F : FnOk X.prog X.w X.K X.mg X.base CX0 k f fd ps sp) (hr : Room k A) (ef : A.frames = X.A.frames) (hb : Binds X.K fd ps [])
    (I : Inv X pins σ H s) (r : Vals vs us) (hs : sp vs H Q E0) {E : Value → Shared → Prop} {R : Value → Shared → Prop} (back : ∀ v u H' s', Inv X pins σ H' s' → RelV v u → Q v H' → R u s') : wpAny (model X.prog X.w) A (call (.ref f) us) R E s := by
  have hl : us.length = ps.length := by
    rw [← r.length]
    exact F.len _ _ _ _ hs
  have e0 : Env0 X.prog X.w X.K X.mg X.base A X.stack s H := by
    have e := I.env0
    exact ⟨by rw [ef]; exact e.frames, e.mod, e.bs, e.bsz, e.funs, e.frf, e.hok, e.bare⟩
  refine wpAny_call (codeAny_mono (F.run A X.stack s H ⟨us, []⟩ us vs Q E0 hr e0 (by
    have z := hb s us I.kIn (by simpa using hl)
    simpa using z) r hs) fun r2 s2 hq => ?_)
  cases r2 with
  | error er => exact (pass0 (X := X.nox) pins σ H s er s2 (I.wish _) hq).elim
  | ok fl =>
    cases fl with
    | ret u =>
      obtain ⟨v, H', I', rv, q⟩ := I.after hq
      exact back v u H' s2 I' rv q
    | next => exact False.elim hq
    | brk => exact False.elim hq
    | cont => exact False.elim hq
theorem or_own {op : Operator} {f : Addr} {fd : FuncData} {ps : List Str} {sp : Sp} (c : Kls X.K C) (F : FnOk X.prog X.w X.K X.mg X.base CX0 k f fd ps sp) (hr : Room k X.A) (me : Meth X.K C (PySem.dunder op.info.2) f) (hb : Binds X.K fd ps []) : OpR X (binaryOp op) (rB C sp) := by
  intro pins s σ H x y v u Q I rx ry q
  obtain ⟨a, b, dx, dy, fs, gs, rfl, rfl, ha, hb2, hs⟩ := q
  cases rx
  cases ry
  obtain ⟨mA, J, _⟩ := ins_get I.hok ha
  obtain ⟨mB, J', _⟩ := ins_get I.hok hb2
  obtain ⟨od, J, _⟩ := J.look
  obtain ⟨od', J', _⟩ := J'.look
  obtain ⟨m, hF⟩ := I.fr
  refine PySem.W.binop_K hF I.ok.mod.kin J J'.type c.sf me.at_ me.fn ?_
  refine run_back (Y := X) (vs := [.ref a, .ref b]) F hr rfl hb I (.cons rfl (.cons rfl .nil)) hs fun v u H' s' I' rv ⟨q, nn⟩ => ?_
  have nu := nn u rv
  cases u <;> first | exact absurd rfl nu | exact ⟨_, H', I', rv, q⟩
theorem or_ownEq {f : Addr} {fd : FuncData} {ps : List Str} {sp : Sp} (c : Kls X.K C) (F : FnOk X.prog X.w X.K X.mg X.base CX0 k f fd ps sp) (hr : Room k X.A) (me : Meth X.K C "__eq__" f) (hb : Binds X.K fd ps []) : OpR X (compareOp .Eq) (rB C sp) := by
  intro pins s σ H x y v u Q I rx ry q
  obtain ⟨a, b, dx, dy, fs, gs, rfl, rfl, ha, hb2, hs⟩ := q
  cases rx
  cases ry
  obtain ⟨mA, J, _⟩ := ins_get I.hok ha
  obtain ⟨mB, J', _⟩ := ins_get I.hok hb2
  obtain ⟨od, J, _⟩ := J.look
  obtain ⟨od', J', _⟩ := J'.look
  obtain ⟨m, hF⟩ := I.fr
  refine PySem.W.cmp_K (op := .Eq) (tb := .ref C) hr.units0 hF I.ok.mod.kin J J'.type (by simp [PySem.W.notFirst]) me.at_ me.fn ?_
  refine run_back (Y := X) (vs := [.ref a, .ref b]) F hr rfl hb I (.cons rfl (.cons rfl .nil)) hs fun v u H' s' I' rv ⟨q, nn⟩ => ?_
  have nu := nn u rv
  cases u <;> first | exact absurd rfl nu | exact ⟨_, H', I', rv, q⟩
end
end Dy
end
section
set_option maxRecDepth 100000
set_option maxHeartbeats 4000000
namespace Dy
open PySem PySem.Spec PyProof.Rows L2 Dl Dw Dz
section
variable {prog : Program} {w : World} {A : Around} {E : Value → Shared → Prop} {s : Shared} {K : PySem.W.Frag} {x C L f : Addr} {h₀ : Heap} {m : Str → Option Value} {ox : Obj} {od : Option Obj} {b : Value}
theorem ne_body {hp : Heap} {g : Array GenState} {d : Drawn} {tk : Nat} {os : OsState} {Q : PySem.Fin → Shared → Prop} (hu : A.units < cLine) (X : K.In hp) (I : PySem.W.InstAt hp x ox C od) (hs : PySem.W.findIn K (.ref C) "__eq__" = some (some (.ref f))) (hf : PySem.W.isFn K (.ref f) = true)
    (h : wpAny (model prog w) A (call (.ref f) [.ref x, b]) (fun v s2 => ∃ r, v = .bool r ∧ Q (.done (.ret (.bool (!r)))) s2) E ⟨hp, g, d, tk, os⟩) : wpAny (model prog w) A (Builtin.«object.__ne__» ⟨[.ref x, b], []⟩) Q E ⟨hp, g, d, tk, os⟩ := by
  unfold Builtin.«object.__ne__»
  refine wpAny_bind (m := slotArgs _ _ _) (wpAny_pure ?_)
  dsimp only
  refine wpAny_bind (wpAny_cRoomFor hu ?_)
  refine wpAny_bind (m := callSpecialIfBound? (.ref x) (Str.ofString "__eq__") [b]) (PySem.W.ifBound_K (s := ⟨hp, g, d, tk, os⟩) X I hs hf (wpAny_mono h (fun v s2 hv => ?_) fun _ _ e => e))
  obtain ⟨r, rfl, q⟩ := hv
  dsimp only
  refine wpAny_bind (m := truthy (.bool r)) (wpAny_truthy_bool ?_)
  exact wpAny_pure q
theorem ne_own {Q : Value → Shared → Prop} (hu : A.units + 3 < cLine) (F : Fr h₀ L s.heap m) (X₀ : K.In h₀) (I : PySem.W.InstAt s.heap x ox C od) (hb : PySem.W.Looks (model prog w) s.heap (typeOf b) (.ref C)) (hn : PySem.W.findIn K (.ref C) "__ne__" = some (some (.builtin "object.__ne__")))
    (hm : PySem.W.mroIn K C (.type "object") = some true) (hs : PySem.W.findIn K (.ref C) "__eq__" = some (some (.ref f))) (hf : PySem.W.isFn K (.ref f) = true)
    (h : wpAny (model prog w) A.in1 (call (.ref f) [.ref x, b]) (fun v s2 => ∃ r, v = .bool r ∧ Q (.bool (!r)) s2) E s) : wpAny (model prog w) A (compareOp .NotEq (.ref x) b) Q E s := by
  have X := X₀.keeps F.keep
  have one : wpAny (model prog w) A (tryCompare (.ref x) "__ne__" b) (fun r s2 => ∃ v, r = some v ∧ Q v s2) E s := by
    unfold tryCompare
    simp only [callSpecialIfBound?, bindSpecialIfBound?]
    refine wpAny_bind (wpAny_holding (wpAny_bind (wpAny_bind (wpAny_bind (I.type.here ((PySem.W.looks_findIn X hn).here ?_))))))
    simp only [PySem.F.cmp_object.ne.bind]
    refine wpAny_bind (wpAny_askSetting (wpAny_ite ?_))
    have run : wpAny (model prog w) A (call (.builtin "object.__ne__") ([.ref x] ++ [b]) >>= fun v => pure (some v)) (fun r s2 => wpAny (model prog w) A (match r with
        | some .notImplemented | none => pure none
        | some v => pure (some v)) (fun r s2 => ∃ v, r = some v ∧ Q v s2) E s2) E s := by
      refine wpAny_bind (wpAny_call (codeAny_call_builtin PySem.F.cmp_object.ne.plain PySem.F.cmpEntry_ne (PySem.W.check_slot PySem.F.cmpKind_ne PySem.F.cmpSplit_ne (I.type.andThen (PySem.W.looks_mroIn X hm)) (PySem.F.cmpArgs_ne _ _) ?_)))
      refine ne_body (by simp [Around.in1] at hu ⊢; omega) X I hs hf (wpAny_mono h (fun v s2 hv => ?_) fun _ _ e => e)
      obtain ⟨r, rfl, q⟩ := hv
      refine ⟨r, rfl, ?_⟩
      exact wpAny_pure (wpAny_pure ⟨_, rfl, q⟩)
    split
    · exact wpAny_bind (wpAny_pure (wpAny_pure run))
    · exact wpAny_tryCatch (wpAny_bind (wpAny_pure (wpAny_pure run)))
  unfold compareOp richCompare
  simp only [oneThing_ref]
  refine wpAny_holding (wpAny_bind (wpAny_cRoomFor (by omega) ?_))
  refine wpAny_bind (I.type.here (wpAny_bind (hb.here ?_)))
  rw [if_neg (by simp)]
  refine wpAny_bind (wpAny_pure ?_)
  simp only [Bool.false_eq_true, if_false]
  refine wpAny_bind (wpAny_mono one (fun r s2 z => ?_) fun _ _ e => e)
  obtain ⟨v, rfl, q⟩ := z
  exact wpAny_pure q
end
end Dy
end
section
set_option maxRecDepth 100000
set_option maxHeartbeats 4000000
namespace Dy
open PySem PySem.Spec PyProof.Rows L2 Dl Dw Dz
section
variable {X : Cx} {Wo : WO} {M : Md X.KK Wo} {ρ : List B} {a b e o : Expr} {es : List Expr} {f g : W PyData} {af : W (List B)} {kk k n : Nat} {pos p1 apos : Pos} {C : Addr} {m x : Str} {h : List B → W B}
/-- x.f -/
theorem rd_fld (c : Kls X.K C) (no : NoAttr X.K C m) (ha : RD M a ρ f) (hb : attributeBase a m X.env (eval a X.env) = eval a X.env := by rfl) : RD M (.Attribute a m pos) ρ (bnd f (fldW C m)) := ⟨fun t P z =>
  jd_of (pe_fld peT hb) fun σ G H S Q q => (ha.run t _ z) σ G H S _ fun G1 H1 v y t1 s1 d1 ⟨ds, d, ey, el, p⟩ => by
    subst ey
    obtain ⟨b, dx, fs, rfl, hi, hf⟩ := De.objE d1
    obtain ⟨u, lu, du⟩ := DeF.look hf d el
    exact ⟨b, C, dx, fs, u, rfl, (S.step s1).ok.sub _ _ hi, c.cl, no, lu, q G1 H1 _ _ t1 s1 du p⟩⟩
/-- the promise of a def, as a call of it asks -/
theorem call_sp {t : Rs} {G H : Hp} {vs : List V} {bs : List B} (k : Ok M t G H) (aa : ArgAll M G vs bs) (hn : bs.length = n) {P : PyData → Rs → Prop} (hs : bnd (h bs) asD t P) {Q : VK}
    (q : ∀ (G2 H2 : Hp) (v : V) (y : PyData) (t2 : Rs), Stp M t2 G H G2 H2 → De X.KK G2 v y → P y t2 → Q v H2) : spD X.KK Wo n (Sm h) vs H Q E0 :=
  ⟨M, G, bs, t, _, k, aa, hn, hs, fun G2 H2 v z t2 s2 d2 py => q G2 H2 v z t2 s2 d2 py, fun G2 H2 l ws xs t2 s2 n g e a py =>
    q (upd G2 l (.lst ws)) H2 (.ref l) (.list xs) t2 (s2.freeze n g e) (.lst upd_same (DeAll.up (fun b u z => by
      rw [upd_ne (ne_of_none z g)]
      exact z) xs ws a)) py⟩
/-- x.f, a property -/
theorem rd_prop (E : Ev X kk) (c : Kls X.K C) (D : PDef X.prog X.w X.K Wo X.mg X.base k C m (Sm h)) (ha : RD M a ρ f) (hk : k + 1 ≤ kk := by decide) (hb : attributeBase a m X.env (eval a X.env) = eval a X.env := by rfl) : RD M (.Attribute a m pos) ρ (bnd f (propW C h)) := ⟨fun t P z => by
  obtain ⟨p, g, fd, ps, F, hp, bd⟩ := D.ex
  refine jd_of (pe_prop peT c.cl hp F (E.room.mono hk) bd .nil pass0 hb) fun σ G H S Q q => (ha.run t _ z) σ G H S _ fun G1 H1 v y t1 s1 d1 ⟨⟨ds, ey⟩, hs⟩ => ?_
  subst ey
  have d2 := d1
  obtain ⟨b, dx, fs, rfl, hi, hf⟩ := De.objE d2
  exact ⟨b, dx, fs, rfl, (S.step s1).ok.sub _ _ hi, call_sp (S.step s1).ok (.cons (.d d1) .nil) rfl hs fun G2 H2 v y t2 s2 d2 p => q G2 H2 v y t2 (s1.trans s2) d2 p⟩⟩
/-- x.m(e, ..) -/
theorem rd_meth {pl : Sem Bool} (E : Ev X kk) (c : Kls X.K C) (D : MDef X.prog X.w X.K Wo X.mg X.base k C m n (Sm h)) (ho : RD M o ρ f) (ha : RA M (e :: es) ρ af) (hk : k ≤ kk := by decide)
    (hst : starEach (e :: es) X.env = (false, eval e X.env) :: starEach es X.env := by rfl) (hpl : (backTo pos (starEach es X.env)).any (·.1) = false := by rfl)
    (ht : eval (.Call (.Attribute o m apos) (e :: es) [] pos) X.env = (do
      let ov ← eval o X.env
      standAt apos.atName
      let (f, first) ← holding [ov] (getMethod ov m pl)
      callWith pos f first (backTo pos (starEach (e :: es) X.env)) (backToKw pos (keywordEach [] X.env))) := by rfl) : RD M (.Call (.Attribute o m apos) (e :: es) [] pos) ρ (methW C m n h f af) := ⟨fun t P z => by
  obtain ⟨g, fd, ps, F, me, bd⟩ := D.ex
  refine jd_of (pe_meth peT c.cl me F (E.room.mono hk) bd .nil pass0 paT hst hpl ht) fun σ G H S Q q => (ho.run t _ z) σ G H S _ fun G1 H1 v y t1 s1 d1 ⟨⟨ds, ey, el⟩, z2⟩ => ?_
  subst ey
  have d0 := d1
  obtain ⟨b, dx, fs, rfl, hi, hf⟩ := De.objE d0
  refine ⟨b, dx, fs, rfl, (S.step s1).ok.sub _ _ hi, DeF.lookN hf el, (ha.run t1 _ z2) σ G1 H1 (S.step s1) _ fun G2 H2 vs bs t2 s2 a2 ⟨hn, hs⟩ => ?_⟩
  rw [List.append_nil]
  exact call_sp ((S.step s1).step s2).ok (.cons (.d (De.up s2.gg _ _ d1)) a2) (by rw [List.length_cons]; exact hn) hs fun G3 H3 v y t3 s3 d3 p => q G3 H3 v y t3 ((s1.trans s2).trans s3) d3 p⟩
/-- a op b, an own operator -/
theorem ob_own {K : KK} {M : Md K Wo} {sp : Sp} (h1 : ∀ {t : Rs} {G H : Hp} {vs : List V} {bs : List B} {P : PyData → Rs → Prop}, Ok M t G H → ArgAll M G vs bs → bs.length = 2 → bnd (h bs) asD t P → ∀ {Q : VK},
    (∀ (G2 H2 : Hp) (v : V) (y : PyData) (t2 : Rs), Stp M t2 G H G2 H2 → De K G2 v y → P y t2 → Q v H2) → sp vs H Q E0) : Ob M (rB C sp) (opW C h) := fun x y t P ⟨⟨⟨ds, ex⟩, ⟨es, ey⟩⟩, z⟩ => fun G H v w k hv hw Q q => by
  have hv0 := hv
  have hw0 := hw
  rw [ex] at hv0
  rw [ey] at hw0
  obtain ⟨a, dx, fs, rfl, ha, _⟩ := De.objE hv0
  obtain ⟨b, dy, gs, rfl, hb, _⟩ := De.objE hw0
  exact ⟨a, b, dx, dy, fs, gs, rfl, rfl, k.sub _ _ ha, k.sub _ _ hb, h1 k (.cons (.d hv) (.cons (.d hw) .nil)) rfl z fun G2 H2 v y t2 s2 d2 p => ⟨q G2 H2 v y t2 s2 d2 p, fun u r => De.back d2 r⟩⟩
theorem rd_own {op : Operator} (E : Ev X kk) (c : Kls X.K C) (D : MDef X.prog X.w X.K Wo X.mg X.base k C m 2 (Sm h)) (em : PySem.dunder op.info.2 = m) (ha : RD M a ρ f) (hb : RD M b ρ g) (hk : k ≤ kk := by decide) : RD M (.BinOp a op b pos) ρ (op2 (opW C h) f g) := by
  obtain ⟨fa, fd, ps, F, me, bd⟩ := D.ex
  subst em
  exact rd_bin (or_own c F (E.room.mono hk) me bd) (ob_own fun k aa hn hs Q q => call_sp k aa hn hs q) ha hb
theorem rd_eqO (E : Ev X kk) (c : Kls X.K C) (D : MDef X.prog X.w X.K Wo X.mg X.base k C "__eq__" 2 (Sm h)) (ha : RD M a ρ f) (hb : RD M b ρ g) (hk : k ≤ kk := by decide) : RD M (.Compare a [.Eq] [b] pos) ρ (op2 (opW C h) f g) := by
  obtain ⟨fa, fd, ps, F, me, bd⟩ := D.ex
  exact rd_cmp (or_ownEq c F (E.room.mono hk) me bd) (nomark _) (ob_own fun k aa hn hs Q q => call_sp k aa hn hs q) ha hb
theorem rt_eqO (E : Ev X kk) (c : Kls X.K C) (D : MDef X.prog X.w X.K Wo X.mg X.base k C "__eq__" 2 (Sm h)) (ha : RD M a ρ f) (hb : RD M b ρ g) (hk : k ≤ kk := by decide) : RT M (.Compare a [.Eq] [b] pos) ρ (bnd (op2 (opW C h) f g) asB) := by
  obtain ⟨fa, fd, ps, F, me, bd⟩ := D.ex
  exact rt_cmp (or_ownEq c F (E.room.mono hk) me bd) (nomark _) (ob_own fun k aa hn hs Q q => call_sp k aa hn hs q) ha hb
/-- a != b, by the class's own == -/
def rBn (C : Addr) (sp : Sp) : R2 := fun x y H Q => ∃ (a b dx dy : Addr) (fs gs : List (Str × V)), x = .ref a ∧ y = .ref b ∧ H a = some (.ins C dx fs) ∧ H b = some (.ins C dy gs) ∧ sp [x, y] H (fun v H2 => ∃ r, v = .bl r ∧ Q (.bl (!r)) H2) E0
theorem or_ownNe {f : Addr} {fd : FuncData} {ps : List Str} {sp : Sp} (c : Kls X.K C) (F : FnOk X.prog X.w X.K X.mg X.base CX0 k f fd ps sp) (hr : Room (k + 1) X.A) (me : Meth X.K C "__eq__" f) (hb : L2.Binds X.K fd ps []) : OpR X (compareOp .NotEq) (rBn C sp) := by
  intro pins s σ H x y v u Q I rx ry q
  obtain ⟨a, b, dx, dy, fs, gs, rfl, rfl, ha, hb2, hs⟩ := q
  cases rx
  cases ry
  obtain ⟨mA, J, _⟩ := ins_get I.hok ha
  obtain ⟨mB, J', _⟩ := ins_get I.hok hb2
  obtain ⟨od, J, _⟩ := J.look
  obtain ⟨od', J', _⟩ := J'.look
  obtain ⟨m, hF⟩ := I.fr
  refine ne_own (by have := hr.un; omega) hF I.ok.mod.kin J J'.type c.ne c.hm me.at_ me.fn ?_
  refine run_back (Y := X) (vs := [.ref a, .ref b]) F hr.in1 rfl hb I (.cons rfl (.cons rfl .nil)) hs fun v u H' s' I' rv ⟨r, ev, q⟩ => ?_
  subst ev
  cases rv
  exact ⟨r, rfl, .bl (!r), H', I', rfl, q⟩
end
end Dy
end
section
set_option maxRecDepth 100000
set_option maxHeartbeats 4000000
namespace Dy
open PySem PySem.Spec PyProof.Rows L2 Dl Dw Dz
section
variable {X : Cx} {Wo : WO} {M : Md X.KK Wo} {ρ : List B} {a b e o : Expr} {es : List Expr} {f g : W PyData} {af : W (List B)} {kk k n : Nat} {pos p1 apos : Pos} {C : Addr} {m x : Str} {h : List B → W B}
theorem onot_of {y : PyData} {t : Rs} {P : PyData → Rs → Prop} (z : onot y t P) : ∃ r, y = .bool r ∧ P (.bool (!r)) t := by
  cases y <;> first | exact ⟨_, rfl, z⟩ | exact z.elim
theorem ob_ne {K : KK} {M : Md K Wo} {sp : Sp} (h1 : ∀ {t : Rs} {G H : Hp} {vs : List V} {bs : List B} {P : PyData → Rs → Prop}, Ok M t G H → ArgAll M G vs bs → bs.length = 2 → bnd (h bs) asD t P → ∀ {Q : VK},
    (∀ (G2 H2 : Hp) (v : V) (y : PyData) (t2 : Rs), Stp M t2 G H G2 H2 → De K G2 v y → P y t2 → Q v H2) → sp vs H Q E0) : Ob M (rBn C sp) (neW C h) := fun x y t P ⟨⟨⟨ds, ex⟩, ⟨es, ey⟩⟩, z⟩ => fun G H v w k hv hw Q q => by
  have hv0 := hv
  have hw0 := hw
  rw [ex] at hv0
  rw [ey] at hw0
  obtain ⟨a, dx, fs, rfl, ha, _⟩ := De.objE hv0
  obtain ⟨b, dy, gs, rfl, hb, _⟩ := De.objE hw0
  refine ⟨a, b, dx, dy, fs, gs, rfl, rfl, k.sub _ _ ha, k.sub _ _ hb, h1 (P := fun y t2 => onot y t2 P) k (.cons (.d hv) (.cons (.d hw) .nil)) rfl z fun G2 H2 v y t2 s2 d2 p => ?_⟩
  obtain ⟨r, rfl, p⟩ := onot_of p
  exact ⟨r, d2.blE, q G2 H2 _ _ t2 s2 (.bl _) p⟩
theorem rd_neO (E : Ev X kk) (c : Kls X.K C) (D : MDef X.prog X.w X.K Wo X.mg X.base k C "__eq__" 2 (Sm h)) (ha : RD M a ρ f) (hb : RD M b ρ g) (hk : k + 1 ≤ kk := by decide) : RD M (.Compare a [.NotEq] [b] pos) ρ (op2 (neW C h) f g) := by
  obtain ⟨fa, fd, ps, F, me, bd⟩ := D.ex
  exact rd_cmp (or_ownNe c F (E.room.mono hk) me bd) (nomark _) (ob_ne fun k aa hn hs Q q => call_sp k aa hn hs q) ha hb
theorem rt_neO (E : Ev X kk) (c : Kls X.K C) (D : MDef X.prog X.w X.K Wo X.mg X.base k C "__eq__" 2 (Sm h)) (ha : RD M a ρ f) (hb : RD M b ρ g) (hk : k + 1 ≤ kk := by decide) : RT M (.Compare a [.NotEq] [b] pos) ρ (bnd (op2 (neW C h) f g) asB) := by
  obtain ⟨fa, fd, ps, F, me, bd⟩ := D.ex
  exact rt_cmp (or_ownNe c F (E.room.mono hk) me bd) (nomark _) (ob_ne fun k aa hn hs Q q => call_sp k aa hn hs q) ha hb
/-- len(x), by an own __len__ -/
def rLenO (C : Addr) (sp : Sp) : List V → Hp → VK → Prop := fun xs H Q => ∃ (a dx : Addr) (fs : List (Str × V)), xs = [.ref a] ∧ H a = some (.ins C dx fs) ∧ sp [.ref a] H (fun v H2 => ∃ i : Int, v = .int i ∧ (0 ≤ i ∧ i < 2 ^ 63) ∧ Q (.int i) H2) E0
theorem cr_lenO {f : Addr} {fd : FuncData} {ps : List Str} {sp : Sp} (c : Kls X.K C) (F : FnOk X.prog X.w X.K X.mg X.base CX0 k f fd ps sp) (hr : Room (k + 1) X.A) (me : Meth X.K C "__len__" f) (hb : L2.Binds X.K fd ps []) : CallR X (.builtin "len") (rLenO C sp) := by
  intro pins s σ H xs us Q I r q
  obtain ⟨a, dx, fs, rfl, ha, hs⟩ := q
  rw [Vals.ref1 r]
  obtain ⟨mA, J, _⟩ := ins_get I.hok ha
  obtain ⟨od, J, _⟩ := J.look
  obtain ⟨m, hF⟩ := I.fr
  refine PySem.W.len_K hF I.ok.mod.kin J me.at_ me.fn ?_
  refine run_back (Y := X) (vs := [.ref a]) F hr.in1 rfl hb I (.cons rfl .nil) hs fun v u H' s' I' rv ⟨i, ev, hi, q⟩ => ?_
  subst ev
  obtain ⟨t, rfl⟩ := rv
  exact ⟨hi, .int i, H', I'.tok _, ⟨_, rfl⟩, q⟩
theorem rd_lenO (E : Ev X kk) (c : Kls X.K C) (D : MDef X.prog X.w X.K Wo X.mg X.base k C "__len__" 1 (Sm h)) (ha : RD M a ρ f) (hg : Gl X "len" := by rfl) (hk : k + 1 ≤ kk := by decide) (h3 : starEach [a] X.env = (false, eval a X.env) :: starEach [] X.env := by rfl) : RD M (.Call (.Name "len" p1) [a] [] pos) ρ (bnd f (lenW C h)) := ⟨fun t P z => by
  obtain ⟨fa, fd, ps, F, me, bd⟩ := D.ex
  refine jd_of (pe_callB (cr_lenO c F (E.room.mono hk) me bd) hg E.bu.len boot_len (pa_cons peT pa_nil h3) (by decide) (by decide) h3 rfl) fun σ G H S Q q => (ha.run t _ z) σ G H S _ fun G1 H1 v y t1 s1 d1 ⟨⟨ds, ey⟩, hs⟩ => ?_
  subst ey
  have d0 := d1
  obtain ⟨b, dx, fs, rfl, hi, hf⟩ := De.objE d0
  refine ⟨b, dx, fs, rfl, (S.step s1).ok.sub _ _ hi, call_sp (S.step s1).ok (.cons (.d d1) .nil) rfl hs fun G2 H2 v y t2 s2 d2 p => ?_⟩
  cases y with
  | int i =>
    obtain ⟨hi, p⟩ := p
    exact ⟨i, d2.intE, hi, q G2 H2 _ _ t2 (s1.trans s2) (.int i) p⟩
  | _ => exact p.elim⟩
/-- C(e, ..) -/
theorem rd_make {i : List B → W (List (PyData × PyData))} (E : Ev X kk) (D : IDef X.prog X.w X.K Wo X.mg X.base k x C n i) (ha : RA M (e :: es) ρ af) (hk : k + 1 ≤ kk := by decide) (hg : Gl X x := by rfl)
    (h2 : (x == ("__debug__" : Str)) = false := by decide) (h3 : starEach (e :: es) X.env = (false, eval e X.env) :: starEach es X.env := by rfl)
    (h4 : (backTo pos (starEach es X.env)).any (·.1) = false := by rfl) : RD M (.Call (.Name x p1) (e :: es) [] pos) ρ (bnd af fun bs => need (bs.length = n) (mkW C i bs)) := ⟨fun t P z => by
  obtain ⟨fa, fd, ps, F, mk, hm, bd⟩ := D.ex
  refine jd_of (pe_make mk F (E.room.mono hk) hg hm bd .nil pass0 paT h2 h3 h4) fun σ G H S Q q => (ha.run t _ z) σ G H S _ fun G1 H1 vs bs t1 s1 a1 ⟨hn, hs⟩ => fun y dx hy hdx ne => ?_
  rw [List.append_nil]
  refine ⟨M, G1, H1, y, dx, vs, bs, t1, _, rfl, (S.step s1).ok, hy, hdx, ne, rfl, a1, hn, hs, fun G2 H2 dx2 fs ds t2 s2 gy hi hf p => ⟨rfl, ?_⟩⟩
  have sz := s2.freeze hy gy hi
  exact q _ H2 (.ref y) (objD C ds) t2 (s1.trans sz) (.obj upd_same (DeF.up0 (fun b u z => by
    rw [upd_ne (ne_of_none z gy)]
    exact z) hf)) p⟩
/-- isinstance(e, C) of an object of C -/
theorem rd_isiO (E : Ev X kk) (c : Kls X.K C) {p2 : Pos} (ha : RD M a ρ f) (hm : X.mg x = some (.ref C)) (hg2 : Gl X x := by rfl) (hg : Gl X "isinstance" := by rfl) (hdb : (x == ("__debug__" : Str)) = false := by decide)
    (h3 : starEach [a, .Name x p2] X.env = (false, eval a X.env) :: starEach [.Name x p2] X.env := by rfl)
    (h4 : ((backTo pos (starEach [.Name x p2] X.env)).any fun x => x.fst) = false := by rfl) (h5 : starEach [.Name x p2] X.env = (false, eval (.Name x p2) X.env) :: starEach [] X.env := by rfl) : RD M (.Call (.Name "isinstance" p1) [a, .Name x p2] [] pos) ρ (bnd f (isiW C)) := ⟨fun t P z => by
  refine jd_of (pe_callB call_isi hg E.bu.isi boot_isinstance (pa_cons peT (pa_cons (pe_glob (v := .ref C) hg2 hm rfl hdb) pa_nil h5) h3) (by decide) (by decide) h3 h4) fun σ G H S Q q =>
    (ha.run t _ z) σ G H S _ fun G1 H1 v y t1 s1 d1 ⟨⟨ds, ey⟩, p⟩ => ?_
  subst ey
  obtain ⟨b, dx, fs, rfl, hi, hf⟩ := De.objE d1
  exact ⟨.ref b, .ref C, .ref C, .ref C, true, rfl, .own C, .base (.ins ((S.step s1).ok.sub _ _ hi) c.cl c.ha c.hn c.ht c.hm), c.ki, q G1 H1 _ _ t1 s1 (.bl true) p⟩⟩
end
end Dy
end
section
set_option maxRecDepth 100000
set_option maxHeartbeats 4000000
namespace Dy
open PySem PySem.Spec PyProof.Rows L2 Dl Dw Dz
/-- no slot holds an object in the making -/
def noNew : List B → Bool
  | [] => true
  | .new _ _ _ :: _ => false
  | _ :: r => noNew r
theorem noNew_at : ∀ {ρ : List B} {i : Nat} {a C : Addr} {fs : List (PyData × PyData)}, noNew ρ = true → ρ[i]? ≠ some (.new a C fs)
  | [], i, a, C, fs, h => by simp
  | b :: r, 0, a, C, fs, h => by
    intro z
    cases z
    cases h
  | b :: r, i + 1, a, C, fs, h => by
    intro z
    rw [List.getElem?_cons_succ] at z
    have : noNew r = true := by cases b <;> first | exact h | cases h
    exact noNew_at this z
section
variable {K : KK} {Wo : WO} {M : Md K Wo} {t : Rs} {G H : Hp} {σ : L2.St} {ρ : List B}
/-- a field of the object in the making is written -/
theorem Sat.wnew {i : Nat} {a C dx : Addr} {fs gs : List (Str × V)} {ds es : List (PyData × PyData)} (S : Sat M t G H σ ρ) (e : ρ[i]? = some (.new a C ds)) (ha : H a = some (.ins C dx fs)) (no : noNew (ρ.set i .un) = true) (d : DeF K G gs es) :
    Sat M t G (upd H a (.ins C dx gs)) σ (ρ.set i (.new a C es)) := by
  obtain ⟨dx0, vs, e1, n, g, h, h0, _⟩ := S.at_ i _ e
  have hi : i < ρ.length := by
    by_cases q : i < ρ.length
    · exact q
    · rw [List.getElem?_eq_none (by omega)] at e
      cases e
  have sub : Same G (upd H a (.ins C dx gs)) := fun b u z => by
    rw [upd_ne (ne_of_none z g)]
    exact S.ok.sub b u z
  have rd : ∃ o, (upd H a (.ins C dx gs)) M.r = some o ∧ Wo t G o := by
    obtain ⟨o, q, w⟩ := S.ok.rd
    refine ⟨o, ?_, w⟩
    rw [upd_ne (Ne.symm n)]
    exact q
  have tb := And.intro (tabs_upd (l := a) (o := .ins C dx gs) S.ok.tb.1 (.inr (.inr (.inl ⟨_, _, _, ha⟩)))) S.ok.tb.2
  refine ⟨⟨S.st.gg, fun b u nb nt z => ?_, fun b e => (by
    by_cases hb : b = a
    · rw [hb, upd_same]; simp
    · rw [upd_ne hb]; exact S.st.al b e), S.st.fr, sub, rd, tb⟩, ⟨sub, S.ok.gr, rd, tb⟩, by rw [List.length_set]; exact S.len, fun j b e2 => ?_, fun x y ps qs k ne e2 e3 e4 e5 => ?_⟩
  · rw [upd_ne (ne_of_none z h0)]
    exact S.st.hh b u nb nt z
  · by_cases hj : i = j
    · subst hj
      rw [List.getElem?_set_self hi] at e2
      cases e2
      exact ⟨dx, gs, e1, n, g, upd_same, h0, d⟩
    · rw [List.getElem?_set_ne hj] at e2
      have s := S.at_ j b e2
      cases b with
      | un => trivial
      | rd => exact s
      | fx f => exact s
      | d x => exact s
      | own zs =>
        obtain ⟨l2, us, e3, n2, g2, h2, h02, d2⟩ := s
        refine ⟨l2, us, e3, n2, g2, ?_, h02, d2⟩
        have : l2 ≠ a := fun z => by
          subst z
          rw [ha] at h2
          cases h2
        rw [upd_ne this]
        exact h2
      | im m => exact s
      | new a2 C2 fs2 =>
        have z := noNew_at (i := j) (a := a2) (C := C2) (fs := fs2) no
        rw [List.getElem?_set_ne hj] at z
        exact absurd e2 z
  · have own : ∀ (c : Nat) (zs : List PyData), (ρ.set i (.new a C es))[c]? = some (.own zs) → ρ[c]? = some (.own zs) := fun c zs z => by
      by_cases hc : i = c
      · subst hc
        rw [List.getElem?_set_self hi] at z
        cases z
      · rw [List.getElem?_set_ne hc] at z
        exact z
    exact S.dis x y ps qs k ne (own _ _ e2) (own _ _ e3) e4 e5
end
section
variable {X : Cx} {Wo : WO} {M : Md X.KK Wo} {ρ : List B} {e : Expr} {f : W PyData} {kk : Nat} {pos p1 apos : Pos} {C : Addr} {m x : Str} {rest : List Stmt} {τ σ : Type} {emb : τ → List B} {emc : σ → List B}
/-- self.m = e -/
theorem rs_fld (i : Nat) {a : Addr} {ds : List (PyData × PyData)} {k : PyData → W (Out τ σ)} (c : Kls X.K C) (no : NoAttr X.K C m) (ha : RD M e ρ f) (hk : ∀ y, RS M rest (ρ.set i (.new a C (putD m y ds))) emb emc (k y)) (few : ds.length < 1000 := by decide) (one : noNew (ρ.set i .un) = true := by rfl)
    (hr : ρ[i]? = some (.new a C ds) := by rfl) (hN : X.N[i]? = some x := by rfl) (hv : Vis X.env.scope x := by first | exact Or.inl rfl | exact Or.inr (Or.inl rfl) | exact Or.inr (Or.inr rfl)) (hs : swapsWith e (some (.Attribute (.Name x p1) m apos)) pos.line X.env = pure false := by rfl)
    (hd : (x == ("__debug__" : Str)) = false := by decide) (hcd : (x == ("__classdict__" : Str)) = false := by decide) : RS M (.Assign [.Attribute (.Name x p1) m apos] e pos :: rest) ρ emb emc (bnd f k) := ⟨fun t P D z w =>
  jss_cons (js_of (ps_fld (pv i hN hv hd hcd) peT hs) fun σ2 G H S E F => (ha.run t _ z) σ2 G H S _ fun G1 H1 v y t1 s1 d1 z1 => by
    have S1 := S.step s1
    obtain ⟨dx, vs, e1, n, g, h, h0, df⟩ := S1.at_ i _ hr
    refine ⟨.ref a, e1, a, C, dx, vs, rfl, h, c.cl, no, by rw [DeF.len df]; exact few, ?_⟩
    exact F.nx _ G1 _ _ t1 (Sat.wnew S1 hr h one (DeF.put d1 df)) s1.gg ((hk y).run t1 P D z1 w))⟩
end
/-- what a body leaves of the object in the making -/
def fnI (m : W (Out (List (PyData × PyData)) Empty)) : W (List (PyData × PyData)) := bnd m fun o => match o with
  | .nx ds => Dw.ret ds
  | .rt b => match b with
    | .d _ => bad
    | _ => bad
  | .ct s => nomatch s
  | .bk s => nomatch s
section
variable {P : Program} {w : World} {K : PySem.W.Frag} {mg : Str → Option Value} {base : Heap}
theorem sat_new {K : KK} {Wo : WO} {M : Md K Wo} {t : Rs} {n : Nat} {G H1 : Hp} {a dx C : Addr} {ws : List V} {bs : List B} {N : List Str} (k : Ok M t G H1) (fa : H1 a = none) (fd : H1 dx = none) (ne : dx ≠ a) (aa : ArgAll M G ws bs) (hn : bs.length = n) :
    Sat (M.at_ G H1) t G (upd (upd H1 dx (.own a)) a (.ins C dx [])) (L2.start N (.ref a :: ws)) (.new a C [] :: (bs ++ List.replicate (N.length - (n + 1)) .un)) := by
  have s1 := k.layO (o := .own a) fd
  have k1 := k.step s1
  have fa1 : (upd H1 dx (.own a)) a = none := by rw [upd_ne (Ne.symm ne)]; exact fa
  have s2 := k1.layO (o := .ins C dx []) fa1
  have s := s1.trans s2
  have k2 := k.step s
  have ga : G a = none := none_of k fa
  have nr : a ≠ M.r := fun z => by
    obtain ⟨o, q, _⟩ := k.rd
    rw [z, q] at fa
    cases fa
  have sl : ∀ (i : Nat) (b : B), (bs ++ List.replicate (N.length - (n + 1)) .un)[i]? = some b → Slot (M.at_ G H1) G (upd (upd H1 dx (.own a)) a (.ins C dx [])) ((ws.map some ++ List.replicate (N.length - (n + 1)) none)[i]?) b ∧ (∀ xs, b ≠ .own xs) := fun i b e => by
    have hl := aa.length
    by_cases hi : i < bs.length
    · rw [List.getElem?_append_left hi] at e
      rw [List.getElem?_append_left (by rw [List.length_map]; omega)]
      have z := args_slot (H := upd (upd H1 dx (.own a)) a (.ins C dx [])) aa i b e
      cases b with
      | un => exact ⟨trivial, fun xs z => by cases z⟩
      | rd => exact ⟨z, fun xs z => by cases z⟩
      | d x => exact ⟨z, fun xs z => by cases z⟩
      | own xs => exact absurd e (args_own aa i xs)
      | im m => exact absurd e (args_im aa i m)
      | fx f => exact absurd e (args_fx aa i f)
      | new b C fs => exact absurd e (args_new aa i b C fs)
    · rw [List.getElem?_append_right (by omega), List.getElem?_replicate] at e
      split at e
      · cases e
        exact ⟨trivial, fun xs z => by cases z⟩
      · cases e
  refine ⟨⟨s.gg, s.hh, s.al, s.fr, s.sub, s.rd, s.tb⟩, ⟨k2.sub, k2.gr, k2.rd, k2.tb⟩, ?_, fun i b e => ?_, fun i j xs ys l _ e _ _ _ => ?_⟩
  · unfold L2.start
    simp only [List.length_append, List.length_map, List.length_replicate, List.length_cons, aa.length, hn]
    omega
  · have es : L2.start N (.ref a :: ws) = some (.ref a) :: (ws.map some ++ List.replicate (N.length - (n + 1)) none) := by
      unfold L2.start
      rw [List.map_cons, List.length_cons, aa.length, hn]
      rfl
    rw [es]
    cases i with
    | zero =>
      cases e
      exact ⟨dx, [], rfl, nr, ga, upd_same, fa, .nil⟩
    | succ i => exact (sl i b e).1
  · cases i with
    | zero => cases e
    | succ i => exact (sl i _ e).2 xs rfl
theorem okI {Wo : WO} {x qual : Str} {st : Stmt} {f C : Addr} {fd : FuncData} {N ps : List Str} {k n : Nat} {S : List B → Rs → (List (PyData × PyData) → Rs → Prop) → Prop} (F : Fun K x qual st f fd) (Sc : FnScope N ps (defScope st)) (hn : ps.length = n + 1)
    (body : ∀ (cdv : Value) (A : Around) (outer : List Env) (s : Shared) (H : Hp) (E : XK) (M : Md (kkOf P w K) Wo) (a : Addr) (bs : List B) (t : Rs) (Pt : List (PyData × PyData) → Rs → Prop), Room k (Xo P w K mg base N qual st f cdv A outer s H E).A → bs.length = n → S bs t Pt →
      JSs (X := Xo P w K mg base N qual st f cdv A outer s H E) M (defBody st) (.new a C [] :: (bs ++ List.replicate (N.length - (n + 1)) .un)) t { nx := fun ρ t' => ∃ ds, ρ[0]? = some (.new a C ds) ∧ Pt ds t', rt := fun _ _ => False }) : FnOk P w K mg base CX0 (k + 1) f fd ps (spI (kkOf P w K) Wo C n S) := by
  refine F.ok Sc (fun vs H Q E h => ?_) (fun cdv A outer s H vs Q E hr h => ?_)
  · obtain ⟨M, G, H1, a, dx, ws, bs, t, Pt, rfl, _, _, _, _, _, aa, hl, _⟩ := h
    rw [List.length_cons, aa.length, hl, hn]
  · obtain ⟨M, G, H1, a, dx, ws, bs, t, Pt, rfl, ok, fa, fdx, ne, rfl, aa, hl, hS, q⟩ := h
    have S0 := sat_new (C := C) (N := N) ok fa fdx ne aa hl
    refine ⟨_, pssT, body cdv A outer s _ E (M.at_ G H1) a bs t Pt hr hl hS (L2.start N (.ref a :: ws)) G _ S0 _ ⟨fun σ' G' H' ρ' t' S' _ ⟨ds, e, p⟩ => ?_, fun σ' G' H' ρ' t' _ _ p => p.elim, fun σ' G' H' ρ' t' _ _ p => p.elim, fun G' H' t' v x s' d p => p.elim, fun G' H' t' l ws xs s' h0 g e d p => p.elim⟩⟩
    obtain ⟨dx2, fs, e1, n2, g, h, h0, d⟩ := S'.at_ 0 _ e
    exact q G' H' dx2 fs ds t' ⟨S'.st.gg, S'.st.hh, S'.st.al, S'.st.fr, S'.st.sub, S'.st.rd, S'.st.tb⟩ g h d p
end
end Dy
end
section
set_option maxRecDepth 100000
set_option maxHeartbeats 4000000
namespace Dy
open PySem PySem.Spec PyProof.Rows L2 Dl Dw Dz
/-! ### [elt for x in xs for y in ys] -/
def flatW (it2 : PyData → W (List PyData)) (f : PyData → PyData → W PyData) : List PyData → List PyData → W (List PyData)
  | [], acc => Dw.ret acc
  | x :: r, acc => bnd (it2 x) fun ys => need (acc.length + ys.length ≤ 16777216) (bnd (mapW (f x) ys) fun zs => flatW it2 f r (acc ++ zs))
def comp2W (it : W (List PyData)) (it2 : PyData → W (List PyData)) (f : PyData → PyData → W PyData) : W (List PyData) := bnd it fun xs => flatW it2 f xs []
@[irreducible] def TiAll (X : Cx) (scope : Scope) (tg e : Expr) : TI := fun σ H R => ∀ (s : Shared) (H0 : Hp) (C : Addr) (cl : List (Str × Addr)) (fp : List Addr), TiOf (Blk X scope s H0 C cl fp) tg e σ H R
section
variable {X : Cx} {Wo : WO} {M : Md X.KK Wo} {ρ : List B} {elt tg iter tg1 iter1 : Expr} {lf : W (List PyData)} {kk : Nat} {pos : Pos} {scope : Scope} {x y : Str}
theorem piA {tg e : Expr} (s : Shared) (H0 : Hp) (C : Addr) (cl : List (Str × Addr)) (fp : List Addr) : PI (Blk X scope s H0 C cl fp) tg e (TiAll X scope tg e) := by unfold TiAll; exact ⟨fun pins s' σ H R I h => piT.run pins s' σ H R I (h s H0 C cl fp)⟩
theorem TiAll.of {tg e : Expr} {σ : L2.St} {H : Hp} {R : It → Hp → Prop} (h : ∀ (s : Shared) (H0 : Hp) (C : Addr) (cl : List (Str × Addr)) (fp : List Addr), TiOf (Blk X scope s H0 C cl fp) tg e σ H R) : TiAll X scope tg e σ H R := by unfold TiAll; exact h
theorem wipe_two (σ : L2.St) (i j : Nat) (v : V) : L2.wipe ((L2.wipe σ [i, j]).set i (some v)) [i, j] = L2.wipe σ [i, j] := by
  apply List.ext_getElem?
  intro m
  simp only [L2.wipe, List.getElem?_set, List.length_set]
  repeat' split
  all_goals first | rfl | omega | (simp_all; done) | (simp_all; omega)
theorem rl_comp2 {it2 : PyData → W (List PyData)} {f : PyData → PyData → W PyData} (i j : Nat) (E : Ev X kk) (hN : X.N.Nodup) (ok : BlkOk X.N X.env.scope scope [(x, i), (y, j)]) (hij : i ≠ j)
    (hg : ∀ (s : Shared) (H : Hp) (C : Addr) (cl : List (Str × Addr)) (fp : List Addr), PG (X.blk s H scope (compEnvC scope cl C X.env) fp) tg (gName i))
    (hg1 : ∀ (s : Shared) (H : Hp) (C : Addr) (cl : List (Str × Addr)) (fp : List Addr), PG (X.blk s H scope (compEnvC scope cl C X.env) fp) tg1 (gName j)) (hi : RI M tg iter ρ lf)
    (hi1 : ∀ u (s : Shared) (H : Hp) (C : Addr) (cl : List (Str × Addr)) (fp : List Addr), RI (X := Blk X scope s H C cl fp) M tg1 iter1 ((wipeB ρ [i, j]).set i (.d u)) (it2 u))
    (he : ∀ u v (s : Shared) (H : Hp) (C : Addr) (cl : List (Str × Addr)) (fp : List Addr), RD (X := Blk X scope s H C cl fp) M elt (((wipeB ρ [i, j]).set i (.d u)).set j (.d v)) (f u v))
    (hs : ∀ x, foldedSetIterable iter X.env x = pure x := by intro _; rfl) (hs1 : ∀ env x, foldedSetIterable iter1 env x = pure x := by intro _ _; rfl) : RL M (.ListComp elt [⟨tg, iter, [], 0⟩, ⟨tg1, iter1, [], 0⟩] scope pos) ρ (comp2W lf it2 f) := ⟨fun t P z => by
  refine jl_of (pe_lc2 (own := [(x, i), (y, j)]) (vs1 := [j]) (wi1 := TiAll X scope tg1 iter1) (g := gName i) (g1 := gName j) (tt := tYes) (tt1 := tYes) (te := TeAll X scope elt) E.calm hN piT ok (fun a ha => by simp at ha ⊢; exact .inr ha) hg (fun _ _ _ _ _ => pts_nil) (fun s H C cl fp => piA s H C cl fp) hg1 (fun _ _ _ _ _ => pts_nil) (fun s H C cl fp => peA s H C cl fp) hs hs1) fun σ G H S Q q => (hi.run t _ z) σ G H S _ fun G1 H1 J xs t1 s1 wk z1 D hD => ?_
  have S1 := S.step s1
  have gD : G1 D = none := none_of S1.ok hD
  have nr : D ≠ M.r := S1.ne_r hD
  have keepD : ∀ {Ga Ha Gb Hb : Hp} {tb : Rs}, Stp M tb Ga Ha Gb Hb → ∀ {us : List V}, Ha D = some (.lst us) → Ga D = none → Hb D = some (.lst us) ∧ Gb D = none := fun s us h g => ⟨s.hh D _ nr (fun _ z => by cases z) h, s.fr D (by rw [h]; simp) g⟩
  have put : ∀ {Ga Ha : Hp} {ta : Rs} {us vs : List V}, Stp M ta G1 H1 Ga Ha → Ha D = some (.lst us) → Ga D = none → Stp M ta G1 H1 Ga (upd Ha D (.lst vs)) := fun {Ga Ha ta us vs} st hd gd => by
    refine ⟨st.gg, fun b u nb nt z => ?_, fun b e => (by
    by_cases hb : b = D
    · rw [hb, upd_same]; simp
    · rw [upd_ne hb]; exact st.al b e), st.fr, fun b u z => ?_, ?_, ⟨tabs_upd st.tb.1 (.inr (.inl ⟨_, hd⟩)), st.tb.2⟩⟩
    · by_cases hb : b = D
      · rw [hb, hD] at z
        cases z
      · rw [upd_ne hb]
        exact st.hh b u nb nt z
    · by_cases hb : b = D
      · rw [hb, gd] at z
        cases z
      · rw [upd_ne hb]
        exact st.sub b u z
    · obtain ⟨o, q, w⟩ := st.rd
      refine ⟨o, ?_, w⟩
      rw [upd_ne (Ne.symm nr)]
      exact q
  let Out : Nat → Hp → Prop := fun i H' => ∃ G' acc ws t', Stp M t' G1 H1 G' H' ∧ G' D = none ∧ H' D = some (.lst ws) ∧ DeAll X.KK G' ws acc ∧ flatW it2 f (xs.drop i) acc t' P
  refine ⟨fun n m H' => m = xs.length - n ∧ n ≤ xs.length ∧ Out n H', ⟨xs.length, rfl, Nat.zero_le _, G1, [], [], t1, S1.ok.layO hD, gD, upd_same, .nil, z1⟩, ?_⟩
  rintro n m H' ⟨rfl, hle, G', acc, ws, t', st, gD', hD', da, fl⟩
  have S' := S1.step st
  by_cases hlt : n < xs.length
  · refine .inr ⟨wk.go n t' G' H' st.gg S'.ok hlt, fun H2 => Out (n + 1) H2, fun H2 o => ⟨xs.length - (n + 1), by omega, rfl, hlt, o⟩, fun v H2 yy => ?_⟩
    obtain ⟨G2, d, s2, e2, d2⟩ := wk.yld n t' G' H' v H2 st.gg S'.ok yy hlt
    have hx : xs.drop n = d :: xs.drop (n + 1) := by
      obtain ⟨hl, e⟩ := List.getElem?_eq_some_iff.mp e2
      rw [List.drop_eq_getElem_cons hl, e]
    rw [hx] at fl
    have S2 : Sat M t' G2 H2 ((L2.wipe σ [i, j]).set i (some v)) ((wipeB ρ [i, j]).set i (.d d)) := ((S'.step s2).wipe [i, j]).set d2
    obtain ⟨hD2, gD2⟩ := keepD s2 hD' gD'
    have st2 := st.trans s2
    show _ ∧ _
    refine ⟨wipe_two σ i j v, ?_⟩
    unfold tYes
    refine iteT (TiAll.of fun sb H0b Cb clb fpb => ((hi1 d sb H0b Cb clb fpb).run t' _ fl) _ G2 H2 S2 _ fun G3 H3 J1 ys t3 s3 wk1 ⟨few, mp⟩ => ?_)
    have S3 := S2.step s3
    obtain ⟨hD3, gD3⟩ := keepD s3 hD2 gD2
    have st3 := st2.trans s3
    have at2 : ∀ {Ga Ha : Hp} {ta : Rs}, Stp M ta G1 H1 Ga Ha → Same G2 Ga → Sat M ta Ga Ha ((L2.wipe σ [i, j]).set i (some v)) ((wipeB ρ [i, j]).set i (.d d)) := fun sa sm => ((S1.step sa).wipe [i, j]).set (De.up sm _ _ d2)
    refine ⟨fun c m Ha => m = ys.length - c ∧ c ≤ ys.length ∧ ∃ Ga out wa ta, Stp M ta G1 H1 Ga Ha ∧ Same G3 Ga ∧ Ga D = none ∧ Ha D = some (.lst wa) ∧ out.length = c ∧ DeAll X.KK Ga wa (acc ++ out) ∧ mapW (f d) (ys.drop c) ta fun zs t2 => flatW it2 f (xs.drop (n + 1)) (acc ++ out ++ zs) t2 P,
      ⟨ys.length, rfl, Nat.zero_le _, G3, [], ws, t3, st3, Same.refl _, gD3, hD3, rfl, ?_, ?_⟩, ?_⟩
    · rw [List.append_nil]
      exact DeAll.up (s2.gg.trans s3.gg) _ _ da
    · rw [List.append_nil]
      exact mp
    rintro c m Ha ⟨rfl, cle, Ga, out, wa, ta, sta, sma, gDa, hDa, el, daa, mpa⟩
    have ka := (S1.step sta).ok
    by_cases clt : c < ys.length
    · refine .inr ⟨wk1.go c ta Ga Ha sma ka clt, fun H2 => ∃ Ga out wa ta, Stp M ta G1 H1 Ga H2 ∧ Same G3 Ga ∧ Ga D = none ∧ H2 D = some (.lst wa) ∧ out.length = c + 1 ∧ DeAll X.KK Ga wa (acc ++ out) ∧ mapW (f d) (ys.drop (c + 1)) ta fun zs t2 => flatW it2 f (xs.drop (n + 1)) (acc ++ out ++ zs) t2 P,
        fun H2 o => ⟨ys.length - (c + 1), by omega, rfl, clt, o⟩, fun u Hb yb => ?_⟩
      obtain ⟨Gb, d', s4, e4, d4⟩ := wk1.yld c ta Ga Ha u Hb sma ka yb clt
      have hy : ys.drop c = d' :: ys.drop (c + 1) := by
        obtain ⟨hl, e⟩ := List.getElem?_eq_some_iff.mp e4
        rw [List.drop_eq_getElem_cons hl, e]
      rw [hy] at mpa
      have stb := sta.trans s4
      have smb : Same G3 Gb := sma.trans s4.gg
      obtain ⟨hD4, gD4⟩ := keepD s4 hDa gDa
      have S4 : Sat M ta Gb Hb ((L2.wipe ((L2.wipe σ [i, j]).set i (some v)) [j]).set j (some u)) (((wipeB ρ [i, j]).set i (.d d)).set j (.d d')) := by
        have z := ((at2 stb (s3.gg.trans smb)).wipe [j]).set (i := j) d4
        have e : (wipeB ((wipeB ρ [i, j]).set i (.d d)) [j]).set j (.d d') = ((wipeB ρ [i, j]).set i (.d d)).set j (.d d') := by
          show ((_ : List B).set j .un).set j _ = _
          rw [List.set_set]
          rfl
        rw [e] at z
        exact z
      show _ ∧ _
      refine ⟨by simp [L2.wipe], ?_⟩
      refine iteT ((JDb.all (M := M) (scope := scope) fun sb H0b Cb clb fpb => (he d d' sb H0b Cb clb fpb).run ta _ mpa) _ Gb Hb S4 _ fun Gc Hc w dw tc sc dd pw => ?_)
      obtain ⟨hDc, gDc⟩ := keepD sc hD4 gD4
      have stc := stb.trans sc
      have dac : DeAll X.KK Gc wa (acc ++ out) := DeAll.up (s4.gg.trans sc.gg) _ _ daa
      have few2 : wa.length < sizeLine := by
        rw [daa.length, List.length_append, sizeLine_eq]
        omega
      refine ⟨wa, hDc, few2, Gc, out ++ [dw], wa ++ [w], tc, put stc hDc gDc, smb.trans sc.gg, gDc, upd_same, by rw [List.length_append, el]; rfl, ?_, ?_⟩
      · rw [← List.append_assoc]
        exact dac.app (.cons dd .nil)
      · have e2 : (fun (zs : List PyData) (t2 : Rs) => flatW it2 f (xs.drop (n + 1)) (acc ++ (out ++ [dw]) ++ zs) t2 P) = fun zs t2 => flatW it2 f (xs.drop (n + 1)) (acc ++ out ++ (dw :: zs)) t2 P := by
          funext zs t2
          simp [List.append_assoc]
        rw [e2]
        exact pw
    · have ec : c = ys.length := by omega
      subst ec
      rw [List.drop_length] at mpa
      refine .inl ⟨wk1.stop _ ta Ga Ha sma ka (Nat.le_refl _), Ga, acc ++ out, wa, ta, sta, gDa, hDa, daa, ?_⟩
      have w2 : flatW it2 f (xs.drop (n + 1)) (acc ++ out ++ []) ta P := mpa
      rw [List.append_nil] at w2
      exact w2
  · have ei : n = xs.length := by omega
    subst ei
    rw [List.drop_length] at fl
    exact .inl ⟨wk.stop _ t' G' H' st.gg S'.ok (Nat.le_refl _), q G' H' D ws acc t' (s1.trans st) (fresh_of s1 hD) gD' hD' da fl⟩⟩
end
end Dy
namespace Dy
open PySem PySem.Spec PyProof.Rows L2 Dl Dw Dz
/-! ### arguments of an __init__, its body -/
def argI1 (k : PyData → W (List (PyData × PyData))) : List B → W (List (PyData × PyData))
  | [.d a] => k a
  | _ => bad
theorem argI1_of {k : PyData → W (List (PyData × PyData))} {bs : List B} {t : Rs} {Q : List (PyData × PyData) → Rs → Prop} (h : argI1 k bs t Q) : ∃ a, bs = [.d a] ∧ k a t Q := by unfold argI1 at h; split at h <;> first | exact ⟨_, rfl, h⟩ | exact h.elim
section
variable {X : Cx} {Wo : WO} {M : Md X.KK Wo} {body : List Stmt}
theorem fnI_run (ρ : List B) {a C : Addr} {emb : List (PyData × PyData) → List B} {m : W (Out (List (PyData × PyData)) Empty)} {t : Rs} {Q : List (PyData × PyData) → Rs → Prop} (h : RS M body ρ emb nul m) (z : fnI m t Q) (e0 : ∀ ds, (emb ds)[0]? = some (.new a C ds)) :
    JSs M body ρ t { nx := fun ρ t' => ∃ ds, ρ[0]? = some (.new a C ds) ∧ Q ds t', rt := fun _ _ => False } := h.run t _ _ z fun o t' w => by
  cases o with
  | rt b => cases b <;> exact w.elim
  | nx s => exact ⟨s, e0 s, w⟩
  | ct s => exact nomatch s
  | bk s => exact nomatch s
end
end Dy
end
section
set_option maxRecDepth 100000
set_option maxHeartbeats 4000000
namespace Dx
open PySem PySem.Spec PyProof.Rows L2 Dl Dw Dz Dy

/-! ### exceptions over data -/
/-- an exception as data: its class, its fields -/
structure XD where
  C : Addr
  fs : List (PyData × PyData)
/-- what is wanted of an exception -/
abbrev XW := XD → Rs → Prop
/-- an exception of which, over data, Ex holds -/
def EK {K : KK} {Wo : WO} (M : Md K Wo) (G H : Hp) (Ex : XW) : XK := fun cls d H' => ∃ (G' : Hp) (C dx : Addr) (fs : List (Str × V)) (ds : List (PyData × PyData)) (t' : Rs),
  cls = .ref C ∧ d = some dx ∧ Ok M t' G' H' ∧ Stp M t' G H G' H' ∧ G' dx = some (.xd fs) ∧ DeF K G' fs ds ∧ Ex ⟨C, ds⟩ t'
theorem EK.step {K : KK} {Wo : WO} {M : Md K Wo} {t1 : Rs} {G H G1 H1 H' : Hp} {Ex : XW} {cls : Value} {d : Option Addr} (s : Stp M t1 G H G1 H1) (h : EK M G1 H1 Ex cls d H') : EK M G H Ex cls d H' := by
  obtain ⟨G', C, dx, fs, ds, t', a, b, k, c, e, f, g⟩ := h
  exact ⟨G', C, dx, fs, ds, t', a, b, k, s.trans c, e, f, g⟩
/-- the frame takes what Ex wants -/
structure TkX (X : Cx) {Wo : WO} (M : Md X.KK Wo) (Ex : XW) : Prop where
  ex : ∃ W : WX, Takes X W ∧ ∀ cls d σ H', EK M M.G0 M.H0 Ex cls d H' → W cls d σ H'
/-- a promise of n arguments, of what may be raised too -/
def spX (K : KK) (Wo : WO) (n : Nat) (S : XW → List B → Rs → (B → Rs → Prop) → Prop) : Sp := fun vs H Q E => ∃ (M : Md K Wo) (G : Hp) (bs : List B) (t : Rs) (P : B → Rs → Prop) (Ex : XW), Ok M t G H ∧ ArgAll M G vs bs ∧ bs.length = n ∧ S Ex bs t P ∧
  (∀ (G' H' : Hp) (v : V) (x : PyData) (t' : Rs), Stp M t' G H G' H' → De K G' v x → P (.d x) t' → Q v H') ∧
  (∀ (G' H' : Hp) (l : Addr) (ws : List V) (xs : List PyData) (t' : Rs), Stp M t' G H G' H' → H l = none → G' l = none → H' l = some (.lst ws) → DeAll K G' ws xs → P (.own xs) t' → Q (.ref l) H') ∧
  ∀ cls d H', EK M G H Ex cls d H' → E cls d H'
def SmX (m : XW → List B → W B) : XW → List B → Rs → (B → Rs → Prop) → Prop := fun Ex bs t Q => m Ex bs t Q
structure DefX (P : Program) (w : World) (K : PySem.W.Frag) (Wo : WO) (mg : Str → Option Value) (base : Heap) (k : Nat) (x : Str) (n : Nat) (S : XW → List B → Rs → (B → Rs → Prop) → Prop) : Prop where
  ex : ∃ (f : Addr) (fd : FuncData) (ps : List Str), FnOk P w K mg base (L2.CX P w) k f fd ps (spX (kkOf P w K) Wo n S) ∧ mg x = some (.ref f) ∧ PySem.W.keepIn K (.ref f) = true ∧ Binds K fd ps []
structure MDefX (P : Program) (w : World) (K : PySem.W.Frag) (Wo : WO) (mg : Str → Option Value) (base : Heap) (k : Nat) (C : Addr) (m : Str) (n : Nat) (S : XW → List B → Rs → (B → Rs → Prop) → Prop) : Prop where
  ex : ∃ (f : Addr) (fd : FuncData) (ps : List Str), FnOk P w K mg base (L2.CX P w) k f fd ps (spX (kkOf P w K) Wo n S) ∧ Meth K C m f ∧ Binds K fd ps []
/-- what an __init__ that may raise promises of the object at a -/
def spXI (K : KK) (Wo : WO) (C : Addr) (n : Nat) (S : XW → List B → Rs → (List (PyData × PyData) → Rs → Prop) → Prop) : Sp := fun vs H Q E => ∃ (M : Md K Wo) (G H1 : Hp) (a dx : Addr) (ws : List V) (bs : List B) (t : Rs) (P : List (PyData × PyData) → Rs → Prop) (Ex : XW),
  vs = .ref a :: ws ∧ Ok M t G H1 ∧ H1 a = none ∧ H1 dx = none ∧ dx ≠ a ∧ H = upd (upd H1 dx (.own a)) a (.ins C dx []) ∧ ArgAll M G ws bs ∧ bs.length = n ∧ S Ex bs t P ∧
  (∀ (G' H' : Hp) (dx' : Addr) (fs : List (Str × V)) (ds : List (PyData × PyData)) (t' : Rs), Stp M t' G H1 G' H' → G' a = none → H' a = some (.ins C dx' fs) → DeF K G' fs ds → P ds t' → Q .non H') ∧
  ∀ cls d H', EK M G H1 Ex cls d H' → E cls d H'
structure IDefX (P : Program) (w : World) (K : PySem.W.Frag) (Wo : WO) (mg : Str → Option Value) (base : Heap) (k : Nat) (x : Str) (C : Addr) (n : Nat) (S : XW → List B → Rs → (List (PyData × PyData) → Rs → Prop) → Prop) : Prop where
  ex : ∃ (f : Addr) (fd : FuncData) (ps : List Str), FnOk P w K mg base (L2.CX P w) k f fd ps (spXI (kkOf P w K) Wo C n S) ∧ Mk K C f ∧ mg x = some (.ref C) ∧ Binds K fd ps []
section
variable {X : Cx} {Wo : WO} {M : Md X.KK Wo} {ρ : List B} {a b e o : Expr} {es : List Expr} {f g : W PyData} {af : W (List B)} {kk k n : Nat} {pos p p1 apos : Pos} {C : Addr} {m x : Str} {Ex : XW} {h : XW → List B → W B}
/-- the promise, as a call asks -/
theorem callX_sp {t : Rs} {G H : Hp} {vs : List V} {bs : List B} (s0 : Stp M t M.G0 M.H0 G H) (k : Ok M t G H) (aa : ArgAll M G vs bs) (hn : bs.length = n) {P : PyData → Rs → Prop} (hs : bnd (h Ex bs) asD t P) {Q : VK}
    (q : ∀ (G2 H2 : Hp) (v : V) (y : PyData) (t2 : Rs), Stp M t2 G H G2 H2 → De X.KK G2 v y → P y t2 → Q v H2) : spX X.KK Wo n (SmX h) vs H Q (EK M M.G0 M.H0 Ex) :=
  ⟨M, G, bs, t, _, Ex, k, aa, hn, hs, fun G2 H2 v z t2 s2 d2 py => q G2 H2 v z t2 s2 d2 py, fun G2 H2 l ws xs t2 s2 n g e a py =>
    q (upd G2 l (.lst ws)) H2 (.ref l) (.list xs) t2 (s2.freeze n g e) (.lst upd_same (DeAll.up (fun b u z => by
      rw [upd_ne (ne_of_none z g)]
      exact z) xs ws a)) py, fun cls d H' z => EK.step s0 z⟩
theorem TkX.pass (T : TkX X M Ex) : Passes (L2.CX X.prog X.w) X (EK M M.G0 M.H0 Ex) := by
  obtain ⟨W, tk, hW⟩ := T.ex
  exact passes_call tk hW
/-- f(e, ..), f may raise -/
theorem rd_callX (T : TkX X M Ex) (E : Ev X kk) (D : DefX X.prog X.w X.K Wo X.mg X.base k x n (SmX h)) (ha : RA M (e :: es) ρ af) (hk : k ≤ kk := by decide) (hg : Gl X x := by rfl)
    (h2 : (x == ("__debug__" : Str)) = false := by decide) (h3 : starEach (e :: es) X.env = (false, eval e X.env) :: starEach es X.env := by rfl)
    (h4 : (backTo pos (starEach es X.env)).any (·.1) = false := by rfl) : RD M (.Call (.Name x p) (e :: es) [] pos) ρ (bnd (callN n (h Ex) af) asD) := ⟨fun t P z => by
  obtain ⟨fa, fd, ps, F, hm, kp, hb⟩ := D.ex
  refine jd_of (pe_call F (E.room.mono hk) hg hm kp hb .nil T.pass paT h2 h3 h4) fun σ G H S Q q => (ha.run t _ z) σ G H S _ fun G1 H1 vs bs t1 s1 a1 ⟨hl, sp⟩ => ?_
  show spX X.KK Wo n _ (vs ++ []) H1 Q _
  rw [List.append_nil]
  exact callX_sp (S.step s1).st (S.step s1).ok a1 hl sp fun G2 H2 v y t2 s2 d2 p => q G2 H2 v y t2 (s1.trans s2) d2 p⟩
/-- x.m(e, ..), m may raise -/
theorem rd_methX {pl : Sem Bool} (T : TkX X M Ex) (E : Ev X kk) (c : Kls X.K C) (D : MDefX X.prog X.w X.K Wo X.mg X.base k C m n (SmX h)) (ho : RD M o ρ f) (ha : RA M (e :: es) ρ af) (hk : k ≤ kk := by decide)
    (hst : starEach (e :: es) X.env = (false, eval e X.env) :: starEach es X.env := by rfl) (hpl : (backTo pos (starEach es X.env)).any (·.1) = false := by rfl)
    (ht : eval (.Call (.Attribute o m apos) (e :: es) [] pos) X.env = (do
      let ov ← eval o X.env
      standAt apos.atName
      let (f, first) ← holding [ov] (getMethod ov m pl)
      callWith pos f first (backTo pos (starEach (e :: es) X.env)) (backToKw pos (keywordEach [] X.env))) := by rfl) : RD M (.Call (.Attribute o m apos) (e :: es) [] pos) ρ (methW C m n (h Ex) f af) := ⟨fun t P z => by
  obtain ⟨g, fd, ps, F, me, bd⟩ := D.ex
  refine jd_of (pe_meth peT c.cl me F (E.room.mono hk) bd .nil T.pass paT hst hpl ht) fun σ G H S Q q => (ho.run t _ z) σ G H S _ fun G1 H1 v y t1 s1 d1 ⟨⟨ds, ey, el⟩, z2⟩ => ?_
  subst ey
  have d0 := d1
  obtain ⟨b, dx, fs, rfl, hi, hf⟩ := De.objE d0
  refine ⟨b, dx, fs, rfl, (S.step s1).ok.sub _ _ hi, DeF.lookN hf el, (ha.run t1 _ z2) σ G1 H1 (S.step s1) _ fun G2 H2 vs bs t2 s2 a2 ⟨hn, hs⟩ => ?_⟩
  rw [List.append_nil]
  exact callX_sp ((S.step s1).step s2).st ((S.step s1).step s2).ok (.cons (.d (De.up s2.gg _ _ d1)) a2) (by rw [List.length_cons]; exact hn) hs fun G3 H3 v y t3 s3 d3 p => q G3 H3 v y t3 ((s1.trans s2).trans s3) d3 p⟩
/-- C(e, ..), its __init__ may raise -/
theorem rd_makeX {i : XW → List B → W (List (PyData × PyData))} (T : TkX X M Ex) (E : Ev X kk) (D : IDefX X.prog X.w X.K Wo X.mg X.base k x C n i) (ha : RA M (e :: es) ρ af) (hk : k + 1 ≤ kk := by decide) (hg : Gl X x := by rfl)
    (h2 : (x == ("__debug__" : Str)) = false := by decide) (h3 : starEach (e :: es) X.env = (false, eval e X.env) :: starEach es X.env := by rfl)
    (h4 : (backTo pos (starEach es X.env)).any (·.1) = false := by rfl) : RD M (.Call (.Name x p1) (e :: es) [] pos) ρ (bnd af fun bs => need (bs.length = n) (mkW C (i Ex) bs)) := ⟨fun t P z => by
  obtain ⟨fa, fd, ps, F, mk, hm, bd⟩ := D.ex
  refine jd_of (pe_make mk F (E.room.mono hk) hg hm bd .nil T.pass paT h2 h3 h4) fun σ G H S Q q => (ha.run t _ z) σ G H S _ fun G1 H1 vs bs t1 s1 a1 ⟨hn, hs⟩ => fun y dx hy hdx ne => ?_
  rw [List.append_nil]
  refine ⟨M, G1, H1, y, dx, vs, bs, t1, _, Ex, rfl, (S.step s1).ok, hy, hdx, ne, rfl, a1, hn, hs, fun G2 H2 dx2 fs ds t2 s2 gy hi hf p => ⟨rfl, ?_⟩, fun cls d H' z => EK.step (S.step s1).st z⟩
  have sz := s2.freeze hy gy hi
  exact q _ H2 (.ref y) (objD C ds) t2 (s1.trans sz) (.obj upd_same (DeF.up0 (fun b u z => by
    rw [upd_ne (ne_of_none z gy)]
    exact z) hf)) p⟩
/-- a op b, an own operator that may raise -/
def rBx (C : Addr) (sp : Sp) (E : XK) : R2 := fun x y H Q => ∃ (a b dx dy : Addr) (fs gs : List (Str × V)), x = .ref a ∧ y = .ref b ∧ H a = some (.ins C dx fs) ∧ H b = some (.ins C dy gs) ∧ sp [x, y] H (fun v H2 => Q v H2 ∧ ∀ u, RelV v u → u ≠ .notImplemented) E
theorem run_backX {pins : List (Addr × Obj)} {σ : L2.St} {H : Hp} {s : Shared} {Q : VK} {us : List Value} {vs : List V} {f : Addr} {fd : FuncData} {ps : List Str} {sp : Sp} {EE : XK} (F : FnOk X.prog X.w X.K X.mg X.base (L2.CX X.prog X.w) k f fd ps sp) (hr : Room k X.A) (hb : Binds X.K fd ps []) (hx : Passes (L2.CX X.prog X.w) X EE)
    (I : Inv X pins σ H s) (r : Vals vs us) (hs : sp vs H Q EE) {R : Value → Shared → Prop} (back : ∀ v u H' s', Inv X pins σ H' s' → RelV v u → Q v H' → R u s') : wpAny (model X.prog X.w) X.A (call (.ref f) us) R X.xe s := by
  refine wpAny_mono (run_fn (dvs := []) F hr hb .nil hx I r (by rw [List.append_nil]; exact hs)) (fun u s' ⟨v, H', I', rv, q⟩ => back v u H' s' I' rv q) fun _ _ z => z
theorem or_ownX {op : Operator} {f : Addr} {fd : FuncData} {ps : List Str} {sp : Sp} {EE : XK} (c : Kls X.K C) (F : FnOk X.prog X.w X.K X.mg X.base (L2.CX X.prog X.w) k f fd ps sp) (hr : Room k X.A) (me : Meth X.K C (PySem.dunder op.info.2) f) (hb : L2.Binds X.K fd ps []) (hx : Passes (L2.CX X.prog X.w) X EE) : OpR X (binaryOp op) (rBx C sp EE) := by
  intro pins s σ H x y v u Q I rx ry q
  obtain ⟨a, b, dx, dy, fs, gs, rfl, rfl, ha, hb2, hs⟩ := q
  cases rx
  cases ry
  obtain ⟨mA, J, _⟩ := ins_get I.hok ha
  obtain ⟨mB, J', _⟩ := ins_get I.hok hb2
  obtain ⟨od, J, _⟩ := J.look
  obtain ⟨od', J', _⟩ := J'.look
  obtain ⟨m, hF⟩ := I.fr
  refine PySem.W.binop_K hF I.ok.mod.kin J J'.type c.sf me.at_ me.fn ?_
  refine run_backX (vs := [.ref a, .ref b]) F hr hb hx I (.cons rfl (.cons rfl .nil)) hs fun v u H' s' I' rv ⟨q, nn⟩ => ?_
  have nu := nn u rv
  cases u <;> first | exact absurd rfl nu | exact ⟨_, H', I', rv, q⟩
end
end Dx
end
section
set_option maxRecDepth 100000
set_option maxHeartbeats 4000000
namespace Dx
open PySem PySem.Spec PyProof.Rows L2 Dl Dw Dz Dy
section
variable {X : Cx} {Wo : WO} {M : Md X.KK Wo} {ρ : List B} {a b e o : Expr} {es : List Expr} {f g : W PyData} {af : W (List B)} {kk k n : Nat} {pos p p1 apos : Pos} {C : Addr} {m x : Str} {Ex : XW} {h : XW → List B → W B}
/-- a op b, an own operator that may raise -/
theorem rd_ownX {op : Operator} (T : TkX X M Ex) (E : Ev X kk) (c : Kls X.K C) (D : MDefX X.prog X.w X.K Wo X.mg X.base k C m 2 (SmX h)) (em : PySem.dunder op.info.2 = m) (ha : RD M a ρ f) (hb : RD M b ρ g) (hk : k ≤ kk := by decide) : RD M (.BinOp a op b pos) ρ (op2 (opW C (h Ex)) f g) := ⟨fun t P z => by
  obtain ⟨fa, fd, ps, F, me, bd⟩ := D.ex
  subst em
  refine jd_of (pe_op (or_ownX c F (E.room.mono hk) me bd T.pass) peT peT) fun σ G H S Q q => (ha.run t _ z) σ G H S _ fun G1 H1 v x t1 s1 d1 z1 => (hb.run t1 _ z1) σ G1 H1 (S.step s1) _ fun G2 H2 w y t2 s2 d2 ⟨⟨⟨ds, ex⟩, ⟨es2, ey⟩⟩, z2⟩ => ?_
  have d1' := De.up s2.gg _ _ d1
  have dx0 := d1'
  have dy0 := d2
  rw [ex] at dx0
  rw [ey] at dy0
  obtain ⟨a1, dxx, fs, rfl, ha1, _⟩ := De.objE dx0
  obtain ⟨b1, dyy, gs, rfl, hb1, _⟩ := De.objE dy0
  have S2 := (S.step s1).step s2
  exact ⟨a1, b1, dxx, dyy, fs, gs, rfl, rfl, S2.ok.sub _ _ ha1, S2.ok.sub _ _ hb1, callX_sp S2.st S2.ok (.cons (.d d1') (.cons (.d d2) .nil)) rfl z2 fun G3 H3 v y t3 s3 d3 p => ⟨q G3 H3 v y t3 ((s1.trans s2).trans s3) d3 p, fun u r => De.back d3 r⟩⟩⟩
end
/-! ### defs that may raise -/
section
variable {P : Program} {w : World} {K : PySem.W.Frag} {mg : Str → Option Value} {base : Heap}
abbrev Xr (P : Program) (w : World) (K : PySem.W.Frag) (mg : Str → Option Value) (base : Heap) (N : List Str) (qual : Str) (st : Stmt) (f : Addr) (cdv : Value) (A : Around) (outer : List Env) (s : Shared) (H : Hp) (E : XK) : Cx :=
  cxOf (L2.CX P w) P w K mg base N qual (defScope st) f cdv A outer s H E
theorem tk_def {Wo : WO} {N : List Str} {qual : Str} {st : Stmt} {f : Addr} {cdv : Value} {A : Around} {outer : List Env} {s : Shared} {H : Hp} {E : XK} {M : Md (kkOf P w K) Wo} {G H1 : Hp} {Ex : XW} (h : ∀ cls d H', EK M G H1 Ex cls d H' → E cls d H') : TkX (Xr P w K mg base N qual st f cdv A outer s H E) (M.at_ G H1) Ex :=
  ⟨fun cls d _ H' => E cls d H', L2.takes_of rfl rfl rfl rfl, fun cls d _ H' z => by
    obtain ⟨G', C, dx, fs, ds, t', a, b, k, c, e, f, g⟩ := z
    exact h cls d H' ⟨G', C, dx, fs, ds, t', a, b, ⟨k.sub, k.gr, k.rd, k.tb⟩, ⟨c.gg, c.hh, c.al, c.fr, c.sub, c.rd, c.tb⟩, e, f, g⟩⟩
theorem okDX {Wo : WO} {x qual : Str} {st : Stmt} {f : Addr} {fd : FuncData} {N ps : List Str} {k n : Nat} {S : XW → List B → Rs → (B → Rs → Prop) → Prop} (F : Fun K x qual st f fd) (Sc : FnScope N ps (defScope st)) (hn : ps.length = n)
    (body : ∀ (cdv : Value) (A : Around) (outer : List Env) (s : Shared) (H : Hp) (E : XK) (M : Md (kkOf P w K) Wo) (bs : List B) (t : Rs) (Pt : B → Rs → Prop) (Ex : XW), Room k (Xr P w K mg base N qual st f cdv A outer s H E).A → TkX (Xr P w K mg base N qual st f cdv A outer s H E) M Ex → bs.length = n → S Ex bs t Pt →
      JSs (X := Xr P w K mg base N qual st f cdv A outer s H E) M (defBody st) (bs ++ List.replicate (N.length - n) .un) t { nx := fun _ t' => Pt (.d .none) t', rt := Pt }) : FnOk P w K mg base (L2.CX P w) (k + 1) f fd ps (spX (kkOf P w K) Wo n S) := by
  refine F.okX Sc (fun vs H Q E h => ?_) (fun cdv A outer s H vs Q E hr h => ?_)
  · obtain ⟨M, G, bs, t, Pt, Ex, _, a, hl, _⟩ := h
    rw [a.length, hl, hn]
  · obtain ⟨M, G, bs, t, Pt, Ex, ok, a, hl, hS, q1, q2, q3⟩ := h
    refine ⟨_, pssT, body cdv A outer s H E (M.at_ G H) bs t Pt Ex hr (tk_def q3) hl hS (L2.start N vs) G H (sat_start ok a hl) _ ⟨fun σ' G' H' ρ' t' S' _ p => ?_, fun σ' G' H' ρ' t' _ _ p => p.elim, fun σ' G' H' ρ' t' _ _ p => p.elim, fun G' H' t' v x s' d p => ?_, fun G' H' t' l ws xs s' h0 g e d p => ?_⟩⟩
    · exact q1 G' H' .non .none t' ⟨S'.st.gg, S'.st.hh, S'.st.al, S'.st.fr, S'.st.sub, S'.st.rd, S'.st.tb⟩ .non p
    · exact q1 G' H' v x t' ⟨s'.gg, s'.hh, s'.al, s'.fr, s'.sub, s'.rd, s'.tb⟩ d p
    · exact q2 G' H' l ws xs t' ⟨s'.gg, s'.hh, s'.al, s'.fr, s'.sub, s'.rd, s'.tb⟩ h0 g e d p
theorem okIX {Wo : WO} {x qual : Str} {st : Stmt} {f C : Addr} {fd : FuncData} {N ps : List Str} {k n : Nat} {S : XW → List B → Rs → (List (PyData × PyData) → Rs → Prop) → Prop} (F : Fun K x qual st f fd) (Sc : FnScope N ps (defScope st)) (hn : ps.length = n + 1)
    (body : ∀ (cdv : Value) (A : Around) (outer : List Env) (s : Shared) (H : Hp) (E : XK) (M : Md (kkOf P w K) Wo) (a : Addr) (bs : List B) (t : Rs) (Pt : List (PyData × PyData) → Rs → Prop) (Ex : XW), Room k (Xr P w K mg base N qual st f cdv A outer s H E).A → TkX (Xr P w K mg base N qual st f cdv A outer s H E) M Ex → bs.length = n → S Ex bs t Pt →
      JSs (X := Xr P w K mg base N qual st f cdv A outer s H E) M (defBody st) (.new a C [] :: (bs ++ List.replicate (N.length - (n + 1)) .un)) t { nx := fun ρ t' => ∃ ds, ρ[0]? = some (.new a C ds) ∧ Pt ds t', rt := fun _ _ => False }) : FnOk P w K mg base (L2.CX P w) (k + 1) f fd ps (spXI (kkOf P w K) Wo C n S) := by
  refine F.okX Sc (fun vs H Q E h => ?_) (fun cdv A outer s H vs Q E hr h => ?_)
  · obtain ⟨M, G, H1, a, dx, ws, bs, t, Pt, Ex, rfl, _, _, _, _, _, aa, hl, _⟩ := h
    rw [List.length_cons, aa.length, hl, hn]
  · obtain ⟨M, G, H1, a, dx, ws, bs, t, Pt, Ex, rfl, ok, fa, fdx, ne, rfl, aa, hl, hS, q, q3⟩ := h
    have S0 := sat_new (C := C) (N := N) ok fa fdx ne aa hl
    refine ⟨_, pssT, body cdv A outer s _ E (M.at_ G H1) a bs t Pt Ex hr (tk_def q3) hl hS (L2.start N (.ref a :: ws)) G _ S0 _ ⟨fun σ' G' H' ρ' t' S' _ ⟨ds, e, p⟩ => ?_, fun σ' G' H' ρ' t' _ _ p => p.elim, fun σ' G' H' ρ' t' _ _ p => p.elim, fun G' H' t' v x s' d p => p.elim, fun G' H' t' l ws xs s' h0 g e d p => p.elim⟩⟩
    obtain ⟨dx2, fs, e1, n2, g, h, h0, d⟩ := S'.at_ 0 _ e
    exact q G' H' dx2 fs ds t' ⟨S'.st.gg, S'.st.hh, S'.st.al, S'.st.fr, S'.st.sub, S'.st.rd, S'.st.tb⟩ g h d p
/-! ### the classes of exceptions -/
/-- what the fields are, the last one first -/
def zipR {α : Type} : List Str → List α → List (Str × α) → List (Str × α)
  | f :: fs, y :: ys, acc => zipR fs ys ((f, y) :: acc)
  | _, _, acc => acc
/-- __init__ of an exception: each argument becomes the field of its name -/
def spErr (C : Addr) (names : List Str) : Sp := fun vs H Q _ => ∃ (a : Addr) (ws : List V) (H1 : Hp), vs = .ref a :: ws ∧ ws.length = names.length ∧ H = upd H1 a (exo a C none) ∧ H1 a = none ∧
  ∀ (d : Addr) (H2 : Hp), H1 d = none → d ≠ a → (∀ b, b ≠ a → b ≠ d → H2 b = H1 b) → H2 a = some (exo a C (some d)) → H2 d = some (exd d (zipR names ws [])) → Q .non H2
structure EDef (P : Program) (w : World) (K : PySem.W.Frag) (mg : Str → Option Value) (base : Heap) (k : Nat) (x : Str) (C : Addr) (names : List Str) : Prop where
  ex : ∃ (f : Addr) (fd : FuncData) (ps : List Str), FnOk P w K mg base CX0 k f fd ps (spErr C names) ∧ OexC K C ∧ PySem.W.findIn K (.ref C) "__init__" = some (some (.ref f)) ∧ PySem.W.typeIn K (.ref f) = some (.type "function") ∧ mg x = some (.ref C) ∧ Binds K fd ps []
end
section
variable {X : Cx} {Wo : WO} {M : Md X.KK Wo} {ρ : List B} {e : Expr} {es : List Expr} {af : W (List B)} {kk k : Nat} {pos p pos2 : Pos} {C : Addr} {x : Str} {names : List Str} {Ex : XW} {τ σ : Type} {emb : τ → List B} {emc : σ → List B} {rest : List Stmt}
def raiW {α : Type} (C : Addr) (names : List Str) (Ex : XW) (af : W (List B)) : W α := fun t _ => af t fun bs t1 => ∃ ds, dsOf bs = some ds ∧ ds.length = names.length ∧ ds.length ≤ 900 ∧ Ex ⟨C, (zipR names ds []).map fun p => (.str p.1, p.2)⟩ t1
theorem deF_zip {K : KK} {G : Hp} : ∀ {names : List Str} {vs : List V} {ds : List PyData} {acc : List (Str × V)} {dacc : List (Str × PyData)}, DeAll K G vs ds → DeF K G acc (dacc.map fun p => (.str p.1, p.2)) → DeF K G (zipR names vs acc) ((zipR names ds dacc).map fun p => (.str p.1, p.2))
  | [], _, _, _, _, .nil, h => h
  | [], _, _, _, _, .cons _ _, h => h
  | _ :: _, _, _, _, _, .nil, h => h
  | f :: fs, _, _, _, _, .cons a r, h => deF_zip (names := fs) r (.cons a h)
/-- raise C(e, ..) -/
theorem rs_raise (T : TkX X M Ex) (E : Ev X kk) (D : EDef X.prog X.w X.K X.mg X.base k x C names) (ha : RA M (e :: es) ρ af) (hk : k + 1 ≤ kk := by decide) (hg : Gl X x := by rfl)
    (h2 : (x == ("__debug__" : Str)) = false := by decide) (h3 : starEach (e :: es) X.env = (false, eval e X.env) :: starEach es X.env := by rfl)
    (h4 : (backTo pos2 (starEach es X.env)).any (·.1) = false := by rfl) : RS M (.Raise (some (.Call (.Name x p) (e :: es) [] pos2)) none pos :: rest) ρ emb emc (raiW C names Ex af) := ⟨fun t P DD z w => by
  obtain ⟨fa, fd, ps, F, O, iC, tI, hm, bd⟩ := D.ex
  obtain ⟨Wx, tk, hW⟩ := T.ex
  refine jss_cons (js_of (ps_raise E.calm tk (pmk_oex O iC tI F (E.room.mono hk) bd .nil (fun _ _ _ _ _ _ _ h => h.elim) hg hm paT h2 h3 h4)) fun σ G H S EE FF => (ha.run t _ z) σ G H S _ fun G1 H1 vs bs t1 s1 a1 ⟨ds, eb, hl, few, hE⟩ => ?_)
  have es' := dsOf_some eb
  rw [es'] at a1
  have da := ArgAll.data a1
  have lv : vs.length = ds.length := da.length
  refine ⟨by omega, fun y hy => ?_⟩
  rw [List.append_nil]
  refine ⟨y, vs, H1, rfl, by rw [lv, hl], rfl, hy, fun d H2 hd ne same ea ed => ⟨rfl, d, _, ea, ed, hd, hW _ _ _ _ ?_⟩⟩
  have eH : upd (del H2 y) d (.xd (zipR names vs [])) = upd H1 d (.xd (zipR names vs [])) := by
    funext b
    by_cases hb : b = d
    · rw [hb, upd_same, upd_same]
    · rw [upd_ne hb, upd_ne hb]
      by_cases hb2 : b = y
      · rw [hb2, del_same, hy]
      · rw [del_ne hb2, same b hb2 hb]
  rw [eH]
  have S1 := S.step s1
  have L := S1.ok.lay (o := .xd (zipR names vs [])) hd
  exact ⟨_, C, d, _, _, t1, rfl, rfl, S1.ok.step L, S1.st.trans L, upd_same, DeF.up0 L.gg (deF_zip da .nil), hE⟩⟩
end
end Dx
end
section
set_option maxRecDepth 100000
set_option maxHeartbeats 4000000
namespace Dx
open PySem PySem.Spec PyProof.Rows L2 Dl Dw Dz Dy
section
variable {P : Program} {w : World} {K : PySem.W.Frag} {mg : Str → Option Value} {base : Heap}
/-- __init__(self, n1): self.f1 = n1 -/
theorem okE1 {x qual sl n1 f1 : Str} {st : Stmt} {f C : Addr} {fd : FuncData} {k : Nat} {p1 p2 p3 p4 : Pos} (F : Fun K x qual st f fd) (Sc : FnScope [sl, n1] [sl, n1] (defScope st))
    (hb : defBody st = [.Assign [.Attribute (.Name sl p1) f1 p2] (.Name n1 p3) p4]) (O : OexC K C) (a1 : PySem.W.findIn K (.ref C) f1 = some none)
    (h1 : (sl == ("__debug__" : Str)) = false := by decide) (h2 : (n1 == ("__debug__" : Str)) = false := by decide) (h3 : (sl == ("__classdict__" : Str)) = false := by decide) (h4 : (n1 == ("__classdict__" : Str)) = false := by decide)
    (v1 : Vis (defScope st) sl := by first | exact Or.inl rfl | exact Or.inr (Or.inl rfl)) (v2 : Vis (defScope st) n1 := by first | exact Or.inl rfl | exact Or.inr (Or.inl rfl))
    (sw : ∀ {X : Cx}, X.env.scope = defScope st → swapsWith (.Name n1 p3) (some (.Attribute (.Name sl p1) f1 p2)) p4.line X.env = pure false := by intro X h; rfl) : FnOk P w K mg base CX0 (k + 1) f fd [sl, n1] (spErr C [f1]) := by
  refine F.ok Sc (fun vs H Q E h => ?_) (fun cdv A outer s H vs Q E hr h => ?_)
  · obtain ⟨a, ws, H1, rfl, hl, _⟩ := h
    simp [hl]
  · obtain ⟨a, ws, H1, rfl, hl, rfl, hn, q⟩ := h
    match ws, hl with
    | [y1], _ =>
      rw [hb]
      refine ⟨_, pss_cons (ps_ost (f := f1) (pe_var (i := 0) rfl v1 h1 h3) (pe_var (i := 1) rfl v2 h2 h4) (sw rfl)) pss_nil, ?_⟩
      refine ⟨y1, rfl, .ref a, rfl, a, C, rfl, O, a1, .inl ⟨upd_same, fun dx hd ne => ?_⟩⟩
      exact q dx _ (by rw [upd_ne ne] at hd; exact hd) ne (fun b h1 h2 => by rw [upd_ne h1, upd_ne h2, upd_ne h1]) upd_same (by rw [upd_ne ne, upd_same]; rfl)
/-- __init__(self, n1, n2): self.f1 = n1; self.f2 = n2 -/
theorem okE2 {x qual sl n1 n2 f1 f2 : Str} {st : Stmt} {f C : Addr} {fd : FuncData} {k : Nat} {p1 p2 p3 p4 q1 q2 q3 q4 : Pos} (F : Fun K x qual st f fd) (Sc : FnScope [sl, n1, n2] [sl, n1, n2] (defScope st))
    (hb : defBody st = [.Assign [.Attribute (.Name sl p1) f1 p2] (.Name n1 p3) p4, .Assign [.Attribute (.Name sl q1) f2 q2] (.Name n2 q3) q4]) (O : OexC K C) (a1 : PySem.W.findIn K (.ref C) f1 = some none) (a2 : PySem.W.findIn K (.ref C) f2 = some none)
    (h1 : (sl == ("__debug__" : Str)) = false := by decide) (h2 : (n1 == ("__debug__" : Str)) = false := by decide) (h3 : (sl == ("__classdict__" : Str)) = false := by decide) (h4 : (n1 == ("__classdict__" : Str)) = false := by decide)
    (h5 : (n2 == ("__debug__" : Str)) = false := by decide) (h6 : (n2 == ("__classdict__" : Str)) = false := by decide)
    (v1 : Vis (defScope st) sl := by first | exact Or.inl rfl | exact Or.inr (Or.inl rfl)) (v2 : Vis (defScope st) n1 := by first | exact Or.inl rfl | exact Or.inr (Or.inl rfl)) (v3 : Vis (defScope st) n2 := by first | exact Or.inl rfl | exact Or.inr (Or.inl rfl))
    (sw : ∀ {X : Cx}, X.env.scope = defScope st → swapsWith (.Name n1 p3) (some (.Attribute (.Name sl p1) f1 p2)) p4.line X.env = pure false := by intro X h; rfl)
    (sw2 : ∀ {X : Cx}, X.env.scope = defScope st → swapsWith (.Name n2 q3) (some (.Attribute (.Name sl q1) f2 q2)) q4.line X.env = pure false := by intro X h; rfl) : FnOk P w K mg base CX0 (k + 1) f fd [sl, n1, n2] (spErr C [f1, f2]) := by
  refine F.ok Sc (fun vs H Q E h => ?_) (fun cdv A outer s H vs Q E hr h => ?_)
  · obtain ⟨a, ws, H1, rfl, hl, _⟩ := h
    simp [hl]
  · obtain ⟨a, ws, H1, rfl, hl, rfl, hn, q⟩ := h
    match ws, hl with
    | [y1, y2], _ =>
      rw [hb]
      refine ⟨_, pss_cons (ps_ost (f := f1) (pe_var (i := 0) rfl v1 h1 h3) (pe_var (i := 1) rfl v2 h2 h4) (sw rfl)) (pss_cons (ps_ost (f := f2) (pe_var (i := 0) rfl v1 h1 h3) (pe_var (i := 2) rfl v3 h5 h6) (sw2 rfl)) pss_nil), ?_⟩
      refine ⟨y1, rfl, .ref a, rfl, a, C, rfl, O, a1, .inl ⟨upd_same, fun dx hd ne => ?_⟩⟩
      refine ⟨y2, rfl, .ref a, rfl, a, C, rfl, O, a2, .inr ⟨dx, [(f1, y1)], upd_same, by rw [upd_ne ne, upd_same], by simp, ?_⟩⟩
      exact q dx _ (by rw [upd_ne ne] at hd; exact hd) ne (fun b h1 h2 => by rw [upd_ne h2, upd_ne h1, upd_ne h2, upd_ne h1]) (by rw [upd_ne (Ne.symm ne), upd_same]) (by rw [upd_same]; rfl)
theorem EDef.of {k : Nat} {x : Str} {C f : Addr} {fd : FuncData} {ps names : List Str} (h : FnOk P w K mg base CX0 k f fd ps (spErr C names)) (O : OexC K C) (i : PySem.W.findIn K (.ref C) "__init__" = some (some (.ref f))) (t : PySem.W.typeIn K (.ref f) = some (.type "function")) (m : mg x = some (.ref C)) (b : Binds K fd ps []) : EDef P w K mg base k x C names := ⟨f, fd, ps, h, O, i, t, m, b⟩
end
end Dx
end
section
set_option maxRecDepth 100000
set_option maxHeartbeats 4000000
namespace Dx
open PySem PySem.Spec PyProof.Rows L2 Dl Dw Dz Dy
theorem exS_own {a C dx x : Addr} : exS a C dx ≠ .own x := fun z => by
  have z' : HO.ext _ = HO.own x := z
  cases z'
theorem exS_ok {P : Program} {w : World} {H : Hp} {h : Heap} {a C dx : Addr} {oe : Obj} {vs : Array Value} (e : h.get? a = some oe) (z : Zc (.ref C) (some dx) oe) (d : oe.data = .fields vs) : ObjOk P w H h a (exS a C dx) :=
  ⟨⟨oe, vs, e, z.1, z.2, d⟩, ⟨oe, e⟩, fun h1 h2 ⟨o, us, e1, r⟩ k => ⟨o, us, k _ e1, r⟩⟩
theorem exS_at {P : Program} {w : World} {H : Hp} {h : Heap} {a C dx : Addr} (hok : HOk P w H h) (e : H a = some (exS a C dx)) : ∃ (oe : Obj) (vs : Array Value), h.get? a = some oe ∧ oe.cls = .ref C ∧ oe.dict = some dx ∧ oe.data = .fields vs := by
  have x : ObjOk P w H h a (.ext fun h => ∃ (oe : Obj) (vs : Array Value), h.get? a = some oe ∧ oe.cls = .ref C ∧ oe.dict = some dx ∧ oe.data = .fields vs) := hok a _ e
  exact x.1
section
variable {X : Cx} {pins : List (Addr × Obj)} {σ : L2.St} {H : Hp} {sI s' : Shared} {B : Heap} {a C dx : Addr} {oe : Obj} {vs : Array Value}
/-- the caught exception is tracked from now on -/
theorem inv_exc (J : Inv X pins σ H sI) (nb : ∀ b o, sI.heap.get? b = some o → b ∉ frs X.stack → B.get? b = some o) (hn : B.get? a = none) (nfr : a ∉ frs X.stack) (st : B.StaysIn s'.heap) (up : sI.heap.UpToSlots s'.heap)
    (os : s'.os = sI.os) (ag : AllBare s'.gens) (na : H a = none) (e : s'.heap.get? a = some oe) (z : Zc (.ref C) (some dx) oe) (d : oe.data = .fields vs) : Inv X pins σ (upd H a (exS a C dx)) s' := by
  have an : ∀ b o, sI.heap.get? b = some o → b ≠ a := fun b o q hb => by
    rw [hb] at q
    have y := nb a o q nfr
    rw [hn] at y
    cases y
  have tn : ∀ b u, H b = some u → b ≠ a := fun b u q hb => by
    rw [hb, na] at q
    cases q
  have nf : ∀ b ∈ frs X.stack, ∀ o, sI.heap.get? b = some o → ∃ sl, s'.heap.get? b = some { o with slots := sl } := fun b hb o q => by
    obtain ⟨_, o', e', hd⟩ := J.stack.mem hb
    rw [q] at e'
    cases e'
    exact up b o q hd
  have hok : HOk X.prog X.w (upd H a (exS a C dx)) s'.heap := fun b o q => by
    by_cases hb : b = a
    · subst hb
      rw [upd_same] at q
      cases q
      exact exS_ok e z d
    · rw [upd_ne hb] at q
      exact (((J.inGround nb).kept st) b o q).stay (fun _ _ _ y => y) (fun c y => by rw [upd_ne (tn c _ y)]; exact y) fun c xs y => by rw [upd_ne (tn c _ y)]; exact y
  have R := J.call (ch := []) (h' := s'.heap) (g' := s'.gens) (t' := s'.toks) (d' := s'.drawn) (H' := upd H a (exS a C dx))
    { keep := fun b o q _ hb _ => st b o (nb b o q hb)
      slot := fun b o q _ hb _ => nf b hb o q
      free := fun b o q n _ => by rw [upd_ne (an b o q)]; exact n
      there := fun b o q _ => by
        by_cases hb : b ∈ frs X.stack
        · obtain ⟨sl, y⟩ := nf b hb o q
          exact ⟨_, y⟩
        · exact ⟨o, st b o (nb b o q hb)⟩
      tups := fun b xs q => by rw [upd_ne (tn b _ q)]; exact q
      frzs := fun b o u q => by rw [upd_ne (tn b _ q)]; exact q
      tbls := fun b ps q => ⟨#[], by rw [upd_ne (tn b _ q), q]; simp⟩ } hok ag (fun _ y => nomatch y)
  obtain ⟨a1, a2, a3, a4, a5⟩ := s'
  have e5 : a5 = sI.os := os
  subst e5
  exact R
/-- into an except suite that pins nothing -/
theorem inv_in (I : Inv X pins σ H s') : Inv (X.suite a (X.pn ++ pins)) [] σ H s' :=
  ⟨I.ok.suite _ _, I.os, I.bare, I.base, I.loc, I.cell, I.free, I.freeC, fun p hp => I.pin p (by rw [List.append_nil] at hp; exact hp), I.hok, I.len⟩
/-- .. and out of it -/
theorem inv_out {pn' : List (Addr × Obj)} (I : Inv (X.suite a (X.pn ++ pins)) pn' σ H s') (ok : X.Ok) : Inv X pins σ H s' :=
  ⟨ok, I.os, I.bare, I.base, I.loc, I.cell, I.free, I.freeC, fun p hp => I.pin p (List.mem_append_left _ hp), I.hok, I.len⟩
end
/-- what 'except x as n' wishes: the class fits; the suite begins with the exception tracked -/
def wTr (K : PySem.W.Frag) (c : Value) (i nN : Nat) (ts : Addr → TS) (D : Ends) : WX := fun cls d σ H => ∃ C dx : Addr, cls = .ref C ∧ d = some dx ∧ PySem.W.exmOne K cls c = some true ∧
  ∀ a, H a = none → σ.length = nN → ts a { nx := fun σ' H' => D.nx (σ'.set i none) H', rt := D.rt, bk := fun σ' H' => D.bk (σ'.set i none) H', ct := fun σ' H' => D.ct (σ'.set i none) H' } (σ.set i (some (.ref a))) (upd H a (exS a C dx))
section
variable {X : Cx} {x n : Str} {c : Value} {i : Nat} {body suite : List Stmt} {b₀ : Stmt} {np pos pos' : Pos} {tb : WX → TS} {ts : Addr → TS}
theorem ps_try_tr (hs : X.stack = X.env :: X.outer) (hf : X.env.frame = some X.env.locals) (hN : X.N.Nodup) (hi : X.N[i]? = some n) (hln : X.env.kindOf n = some .local) (hc : Names X x c)
    (hb : ∀ (W : WX) (pn : List (Addr × Obj)) (xe : Value → Shared → Prop), Takes (X.tr pn xe) W → PassesOwn (model X.prog X.w) X.A X.env xe → PSs (X.tr pn xe) body (tb W))
    (hsu : ∀ (a : Addr) (pn : List (Addr × Obj)), PSs (X.suite a pn) (b₀ :: suite) (ts a)) :
    PS X (.Try body [.ExceptHandler (some (.Name x np)) (some n) (b₀ :: suite) pos'] [] [] pos) (fun D σ H => tb (wTr X.K c i X.N.length ts D) D σ H) := by
  constructor
  intro pins s σ H D I h
  have ok := I.ok
  have frA : X.A.frames = some (X.env :: X.outer) := by first | (rw [ok.frames, hs]; done)
  refine wpAny_Try_except (wpAny_mono ((hb (wTr X.K c i X.N.length ts D) (X.pn ++ pins) (fun e s1 => wpAny (model X.prog X.w) X.A (noteFrame e X.env) (fun _ s2 => wpAny (model X.prog X.w) X.A (setFlight e none) (fun _ s3 =>
    wpAny (model X.prog X.w) X.A (handleBy e X.env [.ExceptHandler (some (.Name x np)) (some n) (b₀ :: suite) pos']) (SP X pins D) X.xe s3) X.xe s2) X.xe s1) ?_ PassesOwn.looking).run [] s σ H D (I.toTry _) h) ?_ fun _ _ z => z)
  · rintro u s1 ⟨a, B, sI, pins', σ1, H1, cls, d, rfl, J', nb, up, sky, na, os, ag, C, dx, rfl, rfl, hm, go⟩
    have J : Inv X pins σ1 H1 sI := J'.ofTry ok
    have nb' : ∀ b o, sI.heap.get? b = some o → b ∉ frs X.stack → B.get? b = some o := nb
    have skyL : Sky B (X.env :: X.outer) a (Zc (.ref C) (some dx)) X.env.locals s1.heap := by
      rw [← hs]
      exact sky
    show wpAny (model X.prog X.w) X.A (noteFrame (.ref a) X.env) _ _ _
    refine Sky.land Zc.steady frA hf skyL fun gA flyA upA => ?_
    obtain ⟨oA, wA, atA, clA, daA⟩ := flyA.there
    have nfr : a ∉ frs X.stack := fun hm => by
      rw [hs] at hm
      obtain ⟨_, o', e', q⟩ := flyA.2.2.1.mem hm
      rw [atA] at e'
      cases e'
      exact q _ daA
    have nL : a ≠ X.env.locals := fun y => nfr (by rw [hs]; exact List.mem_filterMap.mpr ⟨X.env, List.mem_cons_self, by rw [hf, y]⟩)
    have nF : a ∉ X.fs := fun hm => nfr (by
      rw [hs]
      obtain ⟨e, he, q⟩ := List.mem_filterMap.mp hm
      exact List.mem_filterMap.mpr ⟨e, List.mem_cons_of_mem _ he, q⟩)
    have JA : Inv X pins σ1 H1 { s1 with heap := gA } := J.landed nb' flyA.1 (up.trans upA) os ag
    have inA := JA.suite atA daA na nL nF
    refine wpAny_handleBy_cons (codeAny_handlers_test ?_) (by intro q; cases q)
    have LT : PySem.W.Looks (model X.prog X.w) gA (typeOf (.ref a)) (.ref C) := fun A Q E s k q => wpAny_typeOf_ref (k _ _ atA) (by rw [clA.1]; exact q)
    have LM := PySem.W.exm_one (M := model X.prog X.w) JA.kIn LT hm
    have test : ∀ {Q : Value → Shared → Prop} {E : Value → Shared → Prop}, Q c { s1 with heap := gA } → wpAny (model X.prog X.w) (X.A.mark (some (.ref a))) (eval (.Name x np) X.env) Q E { s1 with heap := gA } := fun {Q E} q => by
      obtain ⟨glo, dbg, hm | ⟨hm, blt, nnm⟩⟩ := hc
      · exact ld_glob (X := X.suite a ((a, oA) :: (X.pn ++ pins))) inA glo hm q dbg
      · exact ld_blt (X := X.suite a ((a, oA) :: (X.pn ++ pins))) inA glo hm blt q nnm dbg
    refine test (LM.here ?_)
    refine codeAny_handlers_suite_as ?_
    refine HandSPX.lands_againZ flyA fun gB flyB upB => ?_
    obtain ⟨oB, wB, atB, clB, daB⟩ := flyB.there
    have JB : Inv X pins σ1 (upd H1 a (exS a C dx)) { s1 with heap := gB } := inv_exc (s' := { s1 with heap := gB }) J nb' flyB.2.1 nfr flyB.1 ((up.trans upA).trans upB) os ag na atB clB daB
    refine store_ok (X := X.suite a (X.pn ++ pins)) (v := .ref a) (inv_in JB) hN hi (.inl hln) rfl (fun s5 S5 => ?_) (.inr hln)
    refine wpAny_mono ((hsu a (X.pn ++ pins)).run [] s5 _ _ _ S5 (go a na J.len)) (fun f sZ ended => ?_) (fun _ _ y => False.elim y)
    have fin : ∀ {σZ : L2.St} {HZ : Hp} {Q : Shared → Prop}, Inv (X.suite a (X.pn ++ pins)) [] σZ HZ sZ → (∀ s7, Inv X pins (σZ.set i none) HZ s7 → Q s7) →
        wpAny (model X.prog X.w) X.A (do bindName X.env n .none; unbindBehindTheSuite X.env n pos') (fun _ s7 => Q s7) X.xe sZ := fun {σZ HZ Q} InZ hq => gone_ok (inv_out InZ ok) hN hi hln hq
    cases f with
    | next =>
      obtain ⟨σZ, HZ, InZ, endZ⟩ := ended
      exact fin InZ fun s7 J7 => ⟨_, _, J7, endZ⟩
    | brk =>
      obtain ⟨σZ, HZ, InZ, endZ⟩ := ended
      exact fin InZ fun s7 J7 => ⟨_, _, J7, endZ⟩
    | cont =>
      obtain ⟨σZ, HZ, InZ, endZ⟩ := ended
      exact fin InZ fun s7 J7 => ⟨_, _, J7, endZ⟩
    | ret u =>
      obtain ⟨vZ, σZ, HZ, InZ, relZ, endZ⟩ := ended
      exact fin InZ fun s7 J7 => ⟨_, _, _, J7, relZ, endZ⟩
  · intro f s1 ended
    cases f with
    | next =>
      obtain ⟨σ1, H1, J, q⟩ := ended
      exact wpAny_execs_nil ⟨σ1, H1, J.ofTry ok, q⟩
    | brk =>
      obtain ⟨σ1, H1, J, q⟩ := ended
      exact ⟨σ1, H1, J.ofTry ok, q⟩
    | cont =>
      obtain ⟨σ1, H1, J, q⟩ := ended
      exact ⟨σ1, H1, J.ofTry ok, q⟩
    | ret u =>
      obtain ⟨v, σ1, H1, J, r, q⟩ := ended
      exact ⟨v, σ1, H1, J.ofTry ok, r, q⟩
end
end Dx
end
section
set_option maxRecDepth 100000
set_option maxHeartbeats 4000000
namespace Dx
open PySem PySem.Spec PyProof.Rows L2 Dl Dw Dz Dy
/-- the instance that a tracked exception is -/
theorem exc_inst {X : Cx} {pins : List (Addr × Obj)} {σ : L2.St} {H : Hp} {s : Shared} {a D dx : Addr} {fs : List (Str × V)} (I : Inv X pins σ H s) (ea : H a = some (exS a D dx)) (ed : H dx = some (.xd fs)) :
    ∃ (oe od : Obj) (mA : Str → Option Value), PySem.W.InstAt s.heap a oe D (some od) ∧ (∀ f, PySem.W.lookIn f od = some (mA f)) ∧ ∀ f, RelO (fs.lookup f) (mA f) := by
  obtain ⟨oe, vs, hg, hc, hd, hv⟩ := exS_at I.hok ea
  have hx : ObjOk X.prog X.w H s.heap dx (.xd fs) := I.hok dx _ ed
  obtain ⟨mA, hns, hr⟩ := hx
  obtain ⟨od, ho, hl⟩ := lookIn_ns hns
  exact ⟨oe, od, mA, ⟨hg, hc, by unfold PySem.W.notCls; rw [hv] <;> rfl, by rw [hd]; exact ho⟩, hl, hr⟩
/-- isinstance(e, c) of a tracked exception -/
def rIsX (K : PySem.W.Frag) : List V → Hp → VK → Prop := fun xs H Q => ∃ (a D dx : Addr) (fs : List (Str × V)) (c : V) (cv : Value) (b : Bool), xs = [.ref a, c] ∧ H a = some (exS a D dx) ∧ H dx = some (.xd fs) ∧ ExcC K D ∧ (∀ u, RelV c u → u = cv) ∧ PySem.W.kitOne K (.ref D) cv = some b ∧ Q (.bl b) H
theorem call_isX {X : Cx} : CallR X (.builtin "isinstance") (rIsX X.K) := by
  intro pins s σ H xs us Q I r h
  obtain ⟨a, D, dx, fs, c, cv, b, rfl, ea, ed, C, hcv, e, q⟩ := h
  cases r with
  | cons rx rr =>
    cases rr with
    | cons rt rr =>
      cases rr
      cases rx
      have ec := hcv _ rt
      subst ec
      obtain ⟨oe, od, mA, J, _, _⟩ := exc_inst I ea ed
      have hcl : (PySem.W.clsIn X.K D).isSome = true := by
        obtain ⟨cd, hc, _⟩ := PySem.W.any_some C.hd
        rw [hc]
        rfl
      exact PySem.W.kia_one (PySem.W.kitx_exc hcl C.hg C.hk C.hs C.ha C.hn C.ht C.hm) I.kIn J e (fun z => nomatch z) fun tk => ⟨.bl b, H, I.kept (t' := tk) fun _ _ z => z, rfl, q⟩
/-- e.n of a tracked exception -/
def tXn (n : Str) (K : PySem.W.Frag) (te : TE) : TE := fun σ H Q => te σ H fun x H1 => ∃ (a C dx : Addr) (fs : List (Str × V)) (v : V), x = .ref a ∧ H1 a = some (exS a C dx) ∧ H1 dx = some (.xd fs) ∧ XfC K C ∧ PySem.W.findIn K (.ref C) n = some none ∧ fs.lookup n = some v ∧ Q v H1
theorem pe_xn {X : Cx} {e : Expr} {te : TE} {pos : Pos} {n : Str} (he : PE X e te) (hb : attributeBase e n X.env (eval e X.env) = eval e X.env := by rfl) : PE X (.Attribute e n pos) (tXn n X.K te) := by
  refine ⟨fun pins s σ H Q I h => ?_⟩
  refine attr_of hb (thn (he.run pins s σ H _ I h) fun u s1 ⟨x, H1, I1, rx, a, C, dx, fs, v, ex, ea, ed, T, hno, l, q⟩ => ?_)
  subst ex
  obtain rfl : u = Value.ref a := rx
  obtain ⟨oe, od, mA, J, hl, hr⟩ := exc_inst I1 ea ed
  obtain ⟨u, hu, ru⟩ := RelO.some_of (v := v) (o := mA n) (by rw [← l]; exact hr n)
  exact HandSPX.exc_get I1.kIn J T.ga T.gg T.exC (PySem.W.findObj_own T.hdC hno rfl (by rw [hl, hu])) (handed_of ru) ⟨v, H1, I1.tok _, ru, q⟩
theorem De.excE {K : KK} {G : Hp} {v : V} {C : Addr} {ds : List (PyData × PyData)} (h : De K G v (excD C ds)) : ∃ (a dx : Addr) (fs : List (Str × V)), v = .ref a ∧ G a = some (exS a C dx) ∧ G dx = some (.xd fs) ∧ DeF K G fs ds := by
  generalize e : excD C ds = d at h
  cases h with
  | exc ha hd hf =>
    unfold excD at e
    injection e with e
    injection e with e1 e2
    injection e1 with e1 _
    injection e1 with e1
    have e3 := Int.ofNat.inj e1
    subst e3 e2
    exact ⟨_, _, _, rfl, ha, hd, hf⟩
  | obj ha hf =>
    unfold objD excD at e
    injection e with e
    injection e with e1 e2
    injection e1 with _ e1
    cases e1
  | dctO ha hk =>
    unfold excD dctD at e
    injection e with e
    injection e with e _
    injection e with e _
    cases e
  | setO ha hk =>
    unfold excD setD at e
    injection e with e
    injection e with e _
    injection e with e _
    cases e
  | _ => cases e
/-- isinstance(e, c): q tells of the classes that may have been caught whether they are c's -/
def isXW (q : Addr → Option Bool) (x : PyData) : W PyData := fun t P => ∃ D ds b, x = excD D ds ∧ q D = some b ∧ P (.bool b) t
/-- e.n, the class being one of these -/
def fldXW (k : Addr → Prop) (n : Str) (x : PyData) : W PyData := fun t P => ∃ D ds d, x = excD D ds ∧ k D ∧ lookF n ds = some d ∧ P d t
section
variable {X : Cx} {Wo : WO} {M : Md X.KK Wo} {ρ : List B} {a : Expr} {f : W PyData} {kk : Nat} {pos p1 : Pos} {C : Addr} {m x : Str}
theorem rd_fldX {k : Addr → Prop} (hk : ∀ D, k D → XfC X.K D ∧ PySem.W.findIn X.K (.ref D) m = some none) (ha : RD M a ρ f) (hb : attributeBase a m X.env (eval a X.env) = eval a X.env := by rfl) : RD M (.Attribute a m pos) ρ (bnd f (fldXW k m)) := ⟨fun t P z => by
  refine jd_of (pe_xn peT hb) fun σ G H S Q q => (ha.run t _ z) σ G H S _ fun G1 H1 v y t1 s1 d1 ⟨D, ds, d, ey, kd, el, p⟩ => ?_
  subst ey
  obtain ⟨b, dx, fs, rfl, hi, hd, hf⟩ := De.excE d1
  obtain ⟨v2, hl, dv⟩ := DeF.look hf d el
  have S1 := (S.step s1).ok
  exact ⟨b, D, dx, fs, v2, rfl, S1.sub _ _ hi, S1.sub _ _ hd, (hk D kd).1, (hk D kd).2, hl, q G1 H1 v2 d t1 s1 dv p⟩⟩
theorem rd_isX {q : Addr → Option Bool} (u : Bb X.mg) (hq : ∀ D b, q D = some b → ExcC X.K D ∧ PySem.W.kitOne X.K (.ref D) (.ref C) = some b) {p2 : Pos} (ha : RD M a ρ f) (hm : X.mg x = some (.ref C)) (hg2 : Gl X x := by rfl) (hg : Gl X "isinstance" := by rfl) (hdb : (x == ("__debug__" : Str)) = false := by decide)
    (h3 : starEach [a, .Name x p2] X.env = (false, eval a X.env) :: starEach [.Name x p2] X.env := by rfl)
    (h4 : ((backTo pos (starEach [.Name x p2] X.env)).any fun x => x.fst) = false := by rfl) (h5 : starEach [.Name x p2] X.env = (false, eval (.Name x p2) X.env) :: starEach [] X.env := by rfl) : RD M (.Call (.Name "isinstance" p1) [a, .Name x p2] [] pos) ρ (bnd f (isXW q)) := ⟨fun t P z => by
  refine jd_of (pe_callB call_isX hg u.isi boot_isinstance (pa_cons peT (pa_cons (pe_glob (v := .ref C) hg2 hm rfl hdb) pa_nil h5) h3) (by decide) (by decide) h3 h4) fun σ G H S Q q2 =>
    (ha.run t _ z) σ G H S _ fun G1 H1 v y t1 s1 d1 ⟨D, ds, b, ey, e, p⟩ => ?_
  subst ey
  obtain ⟨r, dx, fs, rfl, hi, hd, hf⟩ := De.excE d1
  have S1 := (S.step s1).ok
  exact ⟨r, D, dx, fs, .ref C, .ref C, b, rfl, S1.sub _ _ hi, S1.sub _ _ hd, (hq D b e).1, fun u h => h, (hq D b e).2, q2 G1 H1 _ _ t1 s1 (.bl b) p⟩⟩
end
end Dx
end
section
set_option maxRecDepth 100000
set_option maxHeartbeats 4000000
namespace Dx
open PySem PySem.Spec PyProof.Rows L2 Dl Dw Dz Dy
/-- what a def promises also where an exception is handled; it raises nothing -/
structure FnZ (P : Program) (w : World) (K : PySem.W.Frag) (mg : Str → Option Value) (base : Heap) (k : Nat) (f : Addr) (fd : FuncData) (ps : List Str) (sp : Sp) : Prop where
  len : ∀ vs H Q E, sp vs H Q E → vs.length = ps.length
  run : ∀ (A : Around) (outer : List Env) (s : Shared) (H : Hp) (args : Args) (us : List Value) (vs : List V) (Q : VK) (E : XK), L2H.RoomH k A → Env0 P w K mg base A outer s H → BindsTo s fd args (ps.zip us) → Vals vs us → sp vs H Q E →
    codeAny (model P w) A (.call (.ref f) args) (CR CX0 outer P w H s Q E) s
section
variable {P : Program} {w : World} {K : PySem.W.Frag} {mg : Str → Option Value} {base : Heap}
abbrev Xz (P : Program) (w : World) (K : PySem.W.Frag) (mg : Str → Option Value) (base : Heap) (N : List Str) (qual : Str) (scope : Scope) (f : Addr) (cdv : Value) (A : Around) (outer : List Env) (s : Shared) (H : Hp) (E : XK) : Cx :=
  { cxOf CX0 P w K mg base N qual scope f cdv A outer s H E with calm := false }
theorem inv_startZ {N ps : List Str} {qual : Str} {scope : Scope} {f : Addr} {fo : Obj} {cd : Value} {A : Around} {outer : List Env} {s s1 : Shared} {H : Hp} {E : XK} {us : List Value} {vs : List V}
    (S : FnScope N ps scope) (lk : K.lookup f = some fo) (hnc : ∀ v, fo.data ≠ .cell v) (e0 : Env0 P w K mg base A outer s H) (hl : vs.length = ps.length) (r : Vals vs us)
    (x : InCallC s s.heap.objs.size (bindL (envOfC qual scope s.heap.objs.size f cd).kindOf (ps.zip us) fun _ => none) (cellsFrom (s.heap.objs.size + 1) scope.names []) (bindC (envOfC qual scope s.heap.objs.size f cd).kindOf (ps.zip us) fun _ => none) s1) :
    Inv (Xz P w K mg base N qual scope f cd A outer s H E) [] (L2.start N vs) H s1 := by
  have bf : base.get? f = some fo := e0.mod.kin _ _ lk
  have hp : L2H.PinOk outer H s (f, fo) := ⟨(e0.bs f fo bf).1, (e0.bs f fo bf).2, fun hm => (by
    have z := (e0.funs.mem hm).1
    rw [bf] at z
    cases z), hnc⟩
  have I := L2H.inv_startH (CX := CX0) (qual := qual) (f := f) (cd := cd) (E := E) S hp e0 hl r x
  exact ⟨⟨I.ok.mod, I.ok.kind, I.ok.glob, I.ok.blt, I.ok.above, I.ok.inj, I.ok.has, I.ok.cab, I.ok.hd, I.ok.frames, I.ok.stk, I.ok.exf, I.ok.bs, I.ok.bsz, I.ok.noex, I.ok.exfs, I.ok.funs, I.ok.frf⟩,
    I.os, I.bare, I.base, I.loc, I.cell, I.free, I.freeC, fun p hp => absurd (show p ∈ ([] : List (Addr × Obj)) ++ [] from hp) (by simp), I.hok, I.len⟩
theorem fnZ_of {x qual : Str} {st : Stmt} {f : Addr} {fd : FuncData} {N ps : List Str} {k : Nat} {sp : Sp} (F : Fun K x qual st f fd) (S : FnScope N ps (defScope st)) (len : ∀ vs H Q E, sp vs H Q E → vs.length = ps.length)
    (hbody : ∀ (cdv : Value) (A : Around) (outer : List Env) (s : Shared) (H : Hp) (vs : List V) (Q : VK) (E : XK), L2H.RoomH k (A.deeper (envOfC qual (defScope st) s.heap.objs.size f cdv)) → sp vs H Q E →
      ∃ t, PSs (Xz P w K mg base N qual (defScope st) f cdv A outer s H E).nox (defBody st) t ∧ t { nx := fun _ H' => Q .non H', rt := Q } (L2.start N vs) H) : FnZ P w K mg base (k + 1) f fd ps sp := by
  obtain ⟨oc, od, kV, doc, pm, an, cdv, ct, osl, rfl, lk, hcd⟩ := F.ex
  refine ⟨len, fun A outer s H given vals abst Q E room env0 binds r want => ?_⟩
  have inK : K.In s.heap := env0.mod.kin.keeps fun b o e => (env0.bs b o e).1
  have noLim : s.heap.NoLimit := env0.mod.nolimit.keeps fun b o e => (env0.bs b o e).1
  have kinds : ∀ y ∈ ps.zip vals, (defScope st).names.lookup y.1 = some .local ∨ ((defScope st).names.lookup y.1 = some .cell ∧ ((cellsFrom (s.heap.objs.size + 1) (defScope st).names []).lookup y.1).isSome = true) := fun ⟨n, v⟩ hy => by
    rcases S.par n (List.of_mem_zip hy).1 with q | q
    · exact .inl q
    · exact .inr ⟨q, PySem.W.cellsFrom_some _ _ _ (.inl q)⟩
  refine codeAny_call_function room.depth (inK _ _ lk) rfl S.co S.gen rfl (PySem.W.codeRec_of inK hcd) (binds _ _ _ _ ?_)
  refine wpAny_newFunctionEnv_cells S.kind kinds fun env he s1 frm => ?_
  subst he
  refine ⟨noLim.keeps frm.toInCall.keep, codeAny_func ?_⟩
  obtain ⟨t, ht, hq⟩ := hbody cdv A outer s H abst Q E (room.deeper _) want
  have I : Inv (Xz P w K mg base N qual (defScope st) f cdv A outer s H E) [] (L2.start N abst) H s1 := inv_startZ S lk (fun v z => nomatch z) env0 (len _ _ _ _ want) r frm
  refine wpAny_mono (ht.nox.run [] s1 (L2.start N abst) H _ I hq) (fun flw s' ended => ?_) fun e s' ended => ended
  have done_ : ∀ {σ' : L2.St} {H' : Hp} {v : V} {u : Value}, Inv (Xz P w K mg base N qual (defScope st) f cdv A outer s H E) [] σ' H' s' → RelV v u → Q v H' → CE outer P w H s Q u s' :=
    fun {σ' H' v u} J rv q => ⟨v, H', J.os, J.bare, J.base, J.hok, rv, q⟩
  cases flw with
  | ret u =>
    obtain ⟨v, σ', H', J, rv, q⟩ := ended
    exact done_ J rv q
  | next =>
    obtain ⟨σ', H', J, q⟩ := ended
    exact done_ (v := V.non) (u := Value.none) J rfl q
  | brk =>
    obtain ⟨_, _, _, q⟩ := ended
    exact False.elim q
  | cont =>
    obtain ⟨_, _, _, q⟩ := ended
    exact False.elim q
/-- the promise over data, by the body -/
theorem okZ {Wo : WO} {x qual : Str} {st : Stmt} {f : Addr} {fd : FuncData} {N ps : List Str} {k n : Nat} {S : List B → Rs → (B → Rs → Prop) → Prop} (F : Fun K x qual st f fd) (Sc : FnScope N ps (defScope st)) (hn : ps.length = n)
    (body : ∀ (cdv : Value) (A : Around) (outer : List Env) (s : Shared) (H : Hp) (E : XK) (M : Md (kkOf P w K) Wo) (bs : List B) (t : Rs) (Pt : B → Rs → Prop), L2H.RoomH k (Xz P w K mg base N qual (defScope st) f cdv A outer s H E).nox.A → bs.length = n → S bs t Pt →
      JSs (X := (Xz P w K mg base N qual (defScope st) f cdv A outer s H E).nox) M (defBody st) (bs ++ List.replicate (N.length - n) .un) t { nx := fun _ t' => Pt (.d .none) t', rt := Pt }) : FnZ P w K mg base (k + 1) f fd ps (spD (kkOf P w K) Wo n S) := by
  refine fnZ_of F Sc (fun vs H Q E h => ?_) (fun cdv A outer s H vs Q E hr h => ?_)
  · obtain ⟨M, G, bs, t, Pt, _, a, hl, _⟩ := h
    rw [a.length, hl, hn]
  · obtain ⟨M, G, bs, t, Pt, ok, a, hl, hS, q1, q2⟩ := h
    refine ⟨_, pssT, body cdv A outer s H E (M.at_ G H) bs t Pt hr hl hS (L2.start N vs) G H (sat_start ok a hl) _ ⟨fun σ' G' H' ρ' t' S' _ p => ?_, fun σ' G' H' ρ' t' _ _ p => p.elim, fun σ' G' H' ρ' t' _ _ p => p.elim, fun G' H' t' v x s' d p => ?_, fun G' H' t' l ws xs s' h0 g e d p => ?_⟩⟩
    · exact q1 G' H' .non .none t' ⟨S'.st.gg, S'.st.hh, S'.st.al, S'.st.fr, S'.st.sub, S'.st.rd, S'.st.tb⟩ .non p
    · exact q1 G' H' v x t' ⟨s'.gg, s'.hh, s'.al, s'.fr, s'.sub, s'.rd, s'.tb⟩ d p
    · exact q2 G' H' l ws xs t' ⟨s'.gg, s'.hh, s'.al, s'.fr, s'.sub, s'.rd, s'.tb⟩ h0 g e d p
structure DefZ (P : Program) (w : World) (K : PySem.W.Frag) (Wo : WO) (mg : Str → Option Value) (base : Heap) (k : Nat) (x : Str) (n : Nat) (S : List B → Rs → (B → Rs → Prop) → Prop) : Prop where
  ex : ∃ (f : Addr) (fd : FuncData) (ps : List Str), FnZ P w K mg base k f fd ps (spD (kkOf P w K) Wo n S) ∧ mg x = some (.ref f) ∧ PySem.W.keepIn K (.ref f) = true ∧ Binds K fd ps []
end
section
variable {X : Cx} {k : Nat} {f : Addr} {fd : FuncData} {ps : List Str} {sp : Sp} {x : Str} {q pos : Pos} {e : Expr} {es : List Expr} {t : TA}
theorem run_fnZ {pins : List (Addr × Obj)} {σ : L2.St} {H : Hp} {s : Shared} {Q : VK} {us : List Value} {vs : List V} (F : FnZ X.prog X.w X.K X.mg X.base k f fd ps sp) (hr : L2H.RoomH k X.A) (hb : Binds X.K fd ps [])
    (I : Inv X pins σ H s) (r : Vals vs us) (h : sp vs H Q (fun _ _ _ => False)) : wpAny (model X.prog X.w) X.A (call (.ref f) us) (EP X pins σ Q) X.xe s := by
  have hl : us.length = ps.length := by rw [← r.length]; exact F.len _ _ _ _ h
  have b := hb s us I.kIn (by rw [List.append_nil]; exact hl)
  rw [List.append_nil] at b
  refine wpAny_call (codeAny_mono (F.run X.A X.stack s H ⟨us, []⟩ us vs Q _ hr I.env0 b r h) fun r s' hq => ?_)
  cases r with
  | error e => exact (show False from hq).elim
  | ok fl =>
    cases fl with
    | ret u => exact I.after hq
    | next => exact False.elim hq
    | brk => exact False.elim hq
    | cont => exact False.elim hq
def tCallZ (sp : Sp) (t : TA) : TE := fun σ H Q => t σ H fun vs H1 => sp vs H1 Q fun _ _ _ => False
theorem pe_callZ (F : FnZ X.prog X.w X.K X.mg X.base k f fd ps sp) (hr : L2H.RoomH k X.A) (hg : Gl X x) (hm : X.mg x = some (.ref f)) (hk : PySem.W.keepIn X.K (.ref f) = true) (hb : Binds X.K fd ps [])
    (ha : PA X (e :: es) t) (hdb : (x == ("__debug__" : Str)) = false := by decide) (he : starEach (e :: es) X.env = (false, eval e X.env) :: starEach es X.env := by rfl) (hpl : (backTo pos (starEach es X.env)).any (·.1) = false := by rfl) :
    PE X (.Call (.Name x q) (e :: es) [] pos) (tCallZ sp t) := by
  refine ⟨fun pins s σ H Q I h => ?_⟩
  refine wpAny_Call_Name_kw (ld_glob I hg hm ?_ hdb)
  exact PySem.W.callWith_K (h₀ := X.base) I.ok.mod.kin hk (thn (ha.run pos pins s σ H _ I h) fun us s1 ⟨vs, H1, I1, r, q1⟩ => ⟨I1.kIn, run_fnZ F hr hb I1 r q1⟩) he hpl
end
section
variable {X : Cx} {Wo : WO} {M : Md X.KK Wo} {ρ : List B} {e : Expr} {es : List Expr} {af : W (List B)} {j k n : Nat} {pos p : Pos} {x : Str} {h : List B → W B}
/-- f(e, ..) also where an exception is handled -/
theorem rd_callZ (hr : L2H.RoomH j X.A) (D : DefZ X.prog X.w X.K Wo X.mg X.base k x n (Sm h)) (ha : RA M (e :: es) ρ af) (hk : k ≤ j := by decide) (hg : Gl X x := by rfl)
    (h2 : (x == ("__debug__" : Str)) = false := by decide) (h3 : starEach (e :: es) X.env = (false, eval e X.env) :: starEach es X.env := by rfl)
    (h4 : (backTo pos (starEach es X.env)).any (·.1) = false := by rfl) : RD M (.Call (.Name x p) (e :: es) [] pos) ρ (bnd (callN n h af) asD) := ⟨fun t P z => by
  obtain ⟨fa, fd, ps, F, hm, kp, hb⟩ := D.ex
  refine jd_of (pe_callZ F (hr.mono hk) hg hm kp hb paT h2 h3 h4) fun σ G H S Q q => (ha.run t _ z) σ G H S _ fun G1 H1 vs bs t1 s1 a1 ⟨hl, sp⟩ => ?_
  exact ⟨M, G1, bs, t1, _, (S.step s1).ok, a1, hl, sp, fun G2 H2 v y t2 s2 d2 py => q G2 H2 v y t2 (s1.trans s2) d2 py, fun G2 H2 l ws xs t2 s2 n g e a py =>
    q (upd G2 l (.lst ws)) H2 (.ref l) (.list xs) t2 (s1.trans (s2.freeze n g e)) (.lst upd_same (DeAll.up (fun b u z => by
      rw [upd_ne (ne_of_none z g)]
      exact z) xs ws a)) py⟩⟩
end
end Dx
end
section
set_option maxRecDepth 100000
set_option maxHeartbeats 4000000
namespace Dx
open PySem PySem.Spec PyProof.Rows L2 Dl Dw Dz Dy
/-! ### try .. except C as e, over data -/
/-- no slot holds an own list or an object in the making -/
def noO : List B → Bool
  | [] => true
  | .own _ :: _ => false
  | .new _ _ _ :: _ => false
  | _ :: r => noO r
theorem noO_at : ∀ {ρ : List B} {i : Nat} {b : B}, noO ρ = true → ρ[i]? = some b → (∀ xs, b ≠ .own xs) ∧ ∀ a C fs, b ≠ .new a C fs
  | [], _, _, _, e => by simp at e
  | c :: r, 0, b, h, e => by
    cases e
    cases c <;> simp_all [noO]
  | c :: r, i + 1, b, h, e => noO_at (ρ := r) (by cases c <;> simp_all [noO]) (by simpa using e)
section
variable {K : KK} {Wo : WO} {M : Md K Wo} {t t2 : Rs} {G H G2 H2 G3 H3 : Hp} {σ σ2 : L2.St} {ρ ρ2 : List B} {u : Option (Option V)} {b : B} {D : Dk} {E : Ends}
theorem slot_at (s : Slot M G H u b) (n : (∀ xs, b ≠ .own xs) ∧ ∀ a C fs, b ≠ .new a C fs) : Slot (M.at_ G2 H2) G H u b := by
  cases b with
  | un => trivial
  | rd => exact s
  | fx f => exact s
  | d x => exact s
  | own xs => exact (n.1 xs rfl).elim
  | im m => exact s
  | new a C fs => exact (n.2 a C fs rfl).elim
theorem stp_at (s : Stp (M.at_ G3 H3) t G H G2 H2) : Stp M t G H G2 H2 := ⟨s.gg, s.hh, s.al, s.fr, s.sub, s.rd, s.tb⟩
theorem ok_at (s : Ok (M.at_ G3 H3) t G H) : Ok M t G H := ⟨s.sub, s.gr, s.rd, s.tb⟩
theorem sat_at (S : Sat M t G H σ ρ) (n : noO ρ = true) : Sat (M.at_ G H) t G H σ ρ :=
  ⟨⟨Same.refl G, fun _ _ _ _ e => e, fun _ e => e, fun _ _ e => e, S.ok.sub, S.ok.rd, S.ok.tb⟩, ⟨S.ok.sub, S.ok.gr, S.ok.rd, S.ok.tb⟩, S.len, fun i b e => slot_at (S.at_ i b e) (noO_at n e), fun i j xs ys l _ e _ _ _ => ((noO_at n e).1 xs rfl).elim⟩
theorem h0_none (S : Sat M t G H σ ρ) {l : Addr} (n : H l = none) : M.H0 l = none := by
  cases q : M.H0 l with
  | none => rfl
  | some o => exact (S.st.al l (by rw [q]; simp) n).elim
theorem sat_back (S : Sat M t G H σ ρ) (S2 : Sat (M.at_ G H) t2 G2 H2 σ2 ρ2) : Sat M t2 G2 H2 σ2 ρ2 :=
  ⟨S.st.trans (stp_at S2.st), ok_at S2.ok, S2.len, fun i b e => by
    have s := S2.at_ i b e
    cases b with
    | un => trivial
    | rd => exact s
    | fx f => exact s
    | d x => exact s
    | own xs =>
      obtain ⟨l, vs, e1, n, g, h, h0, d⟩ := s
      exact ⟨l, vs, e1, n, g, h, h0_none S h0, d⟩
    | im m => exact s
    | new a C fs =>
      obtain ⟨dx, vs, e1, n, g, h, h0, d⟩ := s
      exact ⟨dx, vs, e1, n, g, h, h0_none S h0, d⟩, S2.dis⟩
theorem fit_at (S : Sat M t G H σ ρ) (F : Fit M G D E) : Fit (M.at_ G H) G D E :=
  ⟨fun σ2 G2 H2 ρ2 t2 S2 s d => F.nx σ2 G2 H2 ρ2 t2 (sat_back S S2) s d, fun σ2 G2 H2 ρ2 t2 S2 s d => F.bk σ2 G2 H2 ρ2 t2 (sat_back S S2) s d, fun σ2 G2 H2 ρ2 t2 S2 s d => F.ct σ2 G2 H2 ρ2 t2 (sat_back S S2) s d,
    fun G2 H2 t2 v x s d q => F.rt G2 H2 t2 v x (S.st.trans (stp_at s)) d q, fun G2 H2 t2 l ws xs s h0 g e d q => F.rtL G2 H2 t2 l ws xs (S.st.trans (stp_at s)) (h0_none S h0) g e d q⟩
end
section
variable {X : Cx} {Wo : WO} {M : Md X.KK Wo} {ρ : List B} {t : Rs} {D : Dk} {x n : Str} {CS : Addr} {i : Nat} {body suite : List Stmt} {b₀ : Stmt} {np pos pos' : Pos} {Ex : XW}
theorem js_tr (hs : X.stack = X.env :: X.outer) (hf : X.env.frame = some X.env.locals) (hN : X.N.Nodup) (hi : X.N[i]? = some n) (hln : X.env.kindOf n = some .local) (hc : Names X x (.ref CS)) (no : noO ρ = true) (hl : ρ.length = X.N.length)
    (hx : ∀ C ds t1, Ex ⟨C, ds⟩ t1 → PySem.W.exmOne X.K (.ref C) (.ref CS) = some true)
    (hb : ∀ (G H : Hp), Stp M t M.G0 M.H0 G H → Ok M t G H → ∀ (pn : List (Addr × Obj)) (xe : Value → Shared → Prop), TkX (X.tr pn xe) (M.at_ G H) Ex → PassesOwn (model X.prog X.w) X.A X.env xe → JSs (X := X.tr pn xe) (M.at_ G H) body ρ t D)
    (hsu : ∀ (G H : Hp), Stp M t M.G0 M.H0 G H → Ok M t G H → ∀ (a : Addr) (pn : List (Addr × Obj)) (C : Addr) (ds : List (PyData × PyData)) (t1 : Rs), Ex ⟨C, ds⟩ t1 → JSs (X := X.suite a pn) (M.at_ G H) (b₀ :: suite) ((List.replicate ρ.length B.un).set i (.d (excD C ds))) t1
      { nx := fun ρ' t' => D.nx (ρ'.set i .un) t', rt := D.rt, bk := fun ρ' t' => D.bk (ρ'.set i .un) t', ct := fun ρ' t' => D.ct (ρ'.set i .un) t' }) :
    JS M (.Try body [.ExceptHandler (some (.Name x np)) (some n) (b₀ :: suite) pos'] [] [] pos) ρ t D := fun σ G H S E F => by
  refine TsOf.of (ps_try_tr (tb := fun W D' σ' H' => ∀ (pn : List (Addr × Obj)) (xe : Value → Shared → Prop), Takes (X.tr pn xe) W → PassesOwn (model X.prog X.w) X.A X.env xe → TssOf (X.tr pn xe) body D' σ' H')
    (ts := fun a D' σ' H' => ∀ pn : List (Addr × Obj), TssOf (X.suite a pn) (b₀ :: suite) D' σ' H') hs hf hN hi hln hc
    (fun W pn xe tk po => ⟨fun pins s σ1 H1 D1 I h => by
      have z := h pn xe tk po
      unfold TssOf at z
      exact z pins s I⟩)
    (fun a pn => ⟨fun pins s σ1 H1 D1 I h => by
      have z := h pn
      unfold TssOf at z
      exact z pins s I⟩)) fun pn xe tk po => hb G H S.st S.ok pn xe ⟨_, tk, fun cls d σ1 H1 z => ?_⟩ po σ G H (sat_at S no) E (fit_at S F)
  obtain ⟨G1, C, dx, fs, ds, t1, rfl, rfl, k1, st, hdx, hdf, hE⟩ := z
  refine ⟨C, dx, rfl, rfl, hx C ds t1 hE, fun a na hlen pn => ?_⟩
  have L := k1.lay (o := exS a C dx) na (fun _ z => by unfold exS at z; cases z)
  have Fa := fit_at S F
  have hi2 : i < ρ.length := by
    rw [hl]
    exact (List.getElem?_eq_some_iff.mp hi).1
  have S2 : Sat (M.at_ G H) t1 (upd G1 a (exS a C dx)) (upd H1 a (exS a C dx)) (σ1.set i (some (.ref a))) ((List.replicate ρ.length B.un).set i (.d (excD C ds))) := by
    refine ⟨st.trans L, k1.step L, by simp [hlen, hl], fun j b e => ?_, fun j k xs ys l _ e _ _ _ => ?_⟩
    · by_cases hj : i = j
      · subst hj
        rw [List.getElem?_set_self (by simpa using hi2)] at e
        cases e
        exact ⟨.ref a, by rw [List.getElem?_set_self (by rw [hlen, ← hl]; exact hi2)], .exc upd_same (L.gg dx _ hdx) (DeF.up0 L.gg hdf)⟩
      · rw [List.getElem?_set_ne hj, List.getElem?_replicate] at e
        split at e <;> cases e
        trivial
    · by_cases hj : i = j
      · subst hj
        rw [List.getElem?_set_self (by simpa using hi2)] at e
        cases e
      · rw [List.getElem?_set_ne hj, List.getElem?_replicate] at e
        split at e <;> cases e
  exact hsu G H S.st S.ok a pn C ds t1 hE _ _ _ S2 _ ⟨fun σ2 G2 H2 ρ2 t2 S' sm q => Fa.nx (σ2.set i none) G2 H2 (ρ2.set i .un) t2 S'.un ((st.trans L).gg.trans sm) q,
    fun σ2 G2 H2 ρ2 t2 S' sm q => Fa.bk (σ2.set i none) G2 H2 (ρ2.set i .un) t2 S'.un ((st.trans L).gg.trans sm) q, fun σ2 G2 H2 ρ2 t2 S' sm q => Fa.ct (σ2.set i none) G2 H2 (ρ2.set i .un) t2 S'.un ((st.trans L).gg.trans sm) q,
    Fa.rt, Fa.rtL⟩
end
end Dx
end
section
set_option maxRecDepth 100000
set_option maxHeartbeats 4000000
namespace Dx
open PySem PySem.Spec PyProof.Rows L2 Dl Dw Dz Dy LamX
/-! ### a lambda without parameters handed to a def, where no tracked thing is forgotten -/
section
variable {X : Cx} {pins : List (Addr × Obj)} {σ : L2.St} {H : Hp} {s : Shared}
/-- the heap behind the making of a lambda, if its code object is new -/
abbrev lamHp (H : Hp) (P : Addr) (ps : Array Value) (c : Addr) (q : Str) (pos : Pos) : Hp := upd (upd H P (.tbl (ps ++ #[rawInt pos.line, rawInt pos.col, .ref c]))) c (CodeO c q)
theorem lamHp_tabs {T : List (Addr × Str)} {P c : Addr} {ps : Array Value} {q : Str} {pos : Pos} (hP : H P = some (.tbl ps)) (nC : H c = none) (tr : TriplesOk ps.toList) (al : ∀ (p : Pos) (cv : Value), codeAmong p ps.toList = some cv → ∃ c0, cv = .ref c0 ∧ H c0 = some (CodeO c0 q))
    (hu : ∀ p ∈ T, p.1 = P → p.2 = q) (hT : Tabs T H) : ExtN H (lamHp H P ps c q pos) ∧ (∀ b, H b ≠ none → lamHp H P ps c q pos b ≠ none) ∧ Tabs T (lamHp H P ps c q pos) := by
  have nPc : P ≠ c := ne_of_none hP nC
  have ex : ExtN H (lamHp H P ps c q pos) := fun b o e n => by
    have h1 : b ≠ c := ne_of_none e nC
    have h2 : b ≠ P := fun z => by
      rw [z, hP] at e
      exact n ps (Option.some.inj e).symm
    show upd (upd H P _) c _ b = some o
    rw [upd_ne h1, upd_ne h2]
    exact e
  refine ⟨ex, fun b hb => ?_, fun p hp => ?_⟩
  · show upd (upd H P _) c _ b ≠ none
    by_cases h1 : b = c
    · rw [h1, upd_same]
      simp
    · rw [upd_ne h1]
      by_cases h2 : b = P
      · rw [h2, upd_same]
        simp
      · rw [upd_ne h2]
        exact hb
  · by_cases hb : p.1 = P
    · refine ⟨ps ++ #[rawInt pos.line, rawInt pos.col, .ref c], ?_, ?_, fun p1 cv hcv => ?_⟩
      · show upd (upd H P _) c _ p.1 = _
        rw [hb, upd_ne nPc, upd_same]
      · have e : (ps ++ #[rawInt pos.line, rawInt pos.col, .ref c]).toList = ps.toList ++ [rawInt pos.line, rawInt pos.col, .ref c] := by simp
        rw [e]
        exact PySem.TriplesOk_snoc _ _ _ _ tr
      · have e : (ps ++ #[rawInt pos.line, rawInt pos.col, .ref c]).toList = ps.toList ++ [rawInt pos.line, rawInt pos.col, .ref c] := by simp
        rw [e] at hcv
        rw [hu p hp hb]
        rcases among_app _ tr hcv with z | z
        · obtain ⟨c0, e1, e2⟩ := al p1 cv z
          exact ⟨c0, e1, ex _ _ e2 codeO_ne⟩
        · exact ⟨c, z, upd_same⟩
    · obtain ⟨ps1, a1, a2, a3⟩ := hT p hp
      refine ⟨ps1, ?_, a2, fun p1 cv hcv => ?_⟩
      · show upd (upd H P _) c _ p.1 = _
        rw [upd_ne (ne_of_none a1 nC), upd_ne hb]
        exact a1
      · obtain ⟨c0, e1, e2⟩ := a3 p1 cv hcv
        exact ⟨c0, e1, ex _ _ e2 codeO_ne⟩
theorem lam_make3 {T : List (Addr × Str)} {c P : Addr} {q : Str} {params : Arguments} {body : Expr} {scope : Scope} {pos : Pos} {E : Value → Shared → Prop} {Q : Value → Shared → Prop} (hq : q = X.env.qual ++ "<lambda>") (I : Inv X pins σ H s) (TB : TabB X.base X.mg c P) (hcode : X.env.code = .ref c)
    (hm : (P, q) ∈ T) (hu : ∀ p ∈ T, p.1 = P → p.2 = q) (hT : Tabs T H) (hdef : defaultsOf params X.env = ([], [])) (hfree : ∀ y ∈ scope.names, y.2 = .free → ∃ c, X.env.cells.lookup y.1 = some c)
    (h : ∀ (f c1 : Addr) (pm ctv : Value) (H1 : Hp) (s1 : Shared), Inv X pins σ H1 s1 → ExtN H H1 → (∀ b, H b ≠ none → H1 b ≠ none) → Tabs T H1 →
      s1.heap.get? f = some (PySem.W.kla_obj "<lambda>" q params body scope (cloFrom X.env.cells scope.names []) pm c1 ctv) → H1 f = none → f ∉ frs X.stack → H1 c1 = some (CodeO c1 q) → Q (.ref f) s1) :
    wpAny (model X.prog X.w) X.A (eval (.Lambda params body scope pos) X.env) Q E s := by
  subst hq
  obtain ⟨ps, hP, tr, al⟩ := hT _ hm
  have oP : s.heap.get? P = some { cls := .none, data := .fields ps } := I.hok P _ hP
  have far : ∀ f, s.heap.objs.size ≤ f → f ∉ frs X.stack := fun f hf z => by
    rcases List.mem_cons.mp (I.stkSub _ z) with e | e
    · have lt := I.lt
      rw [← e] at lt
      exact absurd hf (Nat.not_le_of_lt lt)
    · exact I.nofs hf e
  refine PySem.W.kla_eval hdef ?_
  cases hc : codeAmong pos ps.toList with
  | some cv =>
    obtain ⟨c1, ec, hco⟩ := al pos cv hc
    subst ec
    refine PySem.W.kla_makeFunctionHit (mg := X.mg) (c := c) (P := P) (ps := ps) (closure_ok hfree) I.ok.glob (I.mod.glob.keeps I.bk) hcode (TB.code.keeps I.bk) oP tr hc (TB.bm.keeps I.bk) fun ctv h1 tk hx hsz => ?_
    refine h h1.objs.size c1 ((X.mg "__name__").getD .none) ctv H _ (I.kept (t' := tk) fun b o e => Heap.get?_push_of_some _ (hx b o e)) (ExtN.refl H) (fun _ z => z) hT (Heap.get?_push_size _ rfl) (I.hok.fresh hsz) (far _ hsz) hco
  | none =>
    refine PySem.W.kla_makeFunction (mg := X.mg) (c := c) (P := P) (ps := ps) (closure_ok hfree) I.ok.glob (I.mod.glob.keeps I.bk) hcode (TB.code.keeps I.bk) oP tr hc TB.gP (TB.bm.keeps I.bk) fun c1 ctv h1 tk old_ geq ltq rec_ tbl_ => ?_
    obtain ⟨cc, ob, vs, t, ee, hob, hda, hnm⟩ := rec_
    cases ee
    have szq : s.heap.objs.size ≤ h1.objs.size := Nat.le_trans geq (Nat.le_of_lt ltq)
    have nC : H c1 = none := I.hok.fresh geq
    obtain ⟨k1, k2, k3⟩ := lamHp_tabs (q := X.env.qual ++ "<lambda>") (pos := pos) hP nC tr al hu hT
    have J := inv_table (t' := tk) (more := #[rawInt pos.line, rawInt pos.col, .ref c1]) (h' := h1.push (PySem.W.kla_obj "<lambda>" (X.env.qual ++ "<lambda>") params body scope (cloFrom X.env.cells scope.names []) ((X.mg "__name__").getD .none) c1 ctv)) I hP
      (fun b o hb e => Heap.get?_push_of_some _ (old_ b o hb e)) (Heap.get?_push_of_some _ tbl_) geq ⟨ob, vs, t, Heap.get?_push_of_some _ hob, hda, hnm⟩
    refine h h1.objs.size c1 ((X.mg "__name__").getD .none) ctv _ _ J k1 k2 k3 (Heap.get?_push_size _ rfl) ?_ (far _ szq) upd_same
    rw [upd_ne (Nat.ne_of_gt ltq), upd_ne (Nat.ne_of_gt (Nat.lt_of_lt_of_le (Heap.lt_size oP) szq))]
    exact I.hok.fresh szq
end
def tLam3 (T : List (Addr × Str)) (TT : (XK → Hp → VK → Prop) → Hp → VK → Prop) (t : XK → TE) : TE := fun σ H Q => Tabs T H ∧ ∀ H1, ExtN H H1 → (∀ b, H b ≠ none → H1 b ≠ none) → Tabs T H1 → TT (fun E H' Q' => t E σ H' Q') H1 Q
section
variable {X : Cx}
theorem pe_lam3 {T : List (Addr × Str)} {TT : (XK → Hp → VK → Prop) → Hp → VK → Prop} {x a : Str} {g c P : Addr} {k : Nat} {pg : Arguments} {bg : List Stmt} {sg : Scope} {dV kV doc pm cdv ct oc : Value} {an od : Option Addr} {osl : Array (Option Value)} {Ng : List Str}
    {params : Arguments} {body : Expr} {scope : Scope} {t : XK → TE} {p lpos pos : Pos} (hg : Gl X x) (hm : X.mg x = some (.ref g)) (hk : PySem.W.keepIn X.K (.ref g) = true)
    (lk : X.K.lookup g = some ⟨oc, od, .func (PySem.W.fnOf x x pg bg sg dV kV doc pm an cdv ct), osl⟩) (hcg : PySem.W.codeIn X.K cdv x = true) (hb : L2.Binds X.K (PySem.W.fnOf x x pg bg sg dV kV doc pm an cdv ct) [a] []) (Sg : FnScope Ng [a] sg) (hNg : Ng[0]? = some a) (hva : Vis sg a)
    (hG : GivesTo X Ng x sg g cdv bg a (X.env.qual ++ "<lambda>") TT) (TB : TabB X.base X.mg c P) (hcode : X.env.code = .ref c) (hmT : (P, X.env.qual ++ "<lambda>") ∈ T) (hu : ∀ p ∈ T, p.1 = P → p.2 = X.env.qual ++ "<lambda>")
    (hr : Room (k + 2) X.A) (L : LamS X.env.scope scope) (hdef : defaultsOf params X.env = ([], [])) (hbind : ∀ (q : Str) (cl : List (Str × Addr)) (pm cv ctv : Value), bindArgs (PySem.W.kla_fn "<lambda>" q params body scope cl pm cv ctv) ⟨[], []⟩ = pure [])
    (hbody : ∀ (A : Around) (outer : List Env) (s : Shared) (H : Hp) (E : XK) (f c' : Addr), Room k (A.deeper (lamEnv X scope s.heap.objs.size f c')) → PE (lamCx X A outer s H E scope f c') body (t E))
    (hdb : (x == ("__debug__" : Str)) = false) (hd : (a == ("__debug__" : Str)) = false) (hcd : (a == ("__classdict__" : Str)) = false) : PE X (.Call (.Name x p) [.Lambda params body scope lpos] [] pos) (tLam3 T TT t) := ⟨fun pins s σ H Q I ⟨hT, h⟩ => by
  refine wpAny_Call_Name_kw (ld_glob I hg hm (PySem.W.callWith_K (h₀ := X.base) I.ok.mod.kin hk ?_ (by rfl) (by rfl)) hdb)
  show wpAny _ _ (spliced ((false, eval (.Lambda params body scope lpos) X.env) :: backTo pos (starEach [] X.env))) _ _ s
  refine Calls.spliced_cons (lam_make3 rfl I TB hcode hmT hu hT hdef (L.has I.ok) fun f c1 pm1 ctv H1 s1 J eN eA T1 hf hfn hfr hco => Calls.spliced_nil ⟨J.kIn, ?_⟩)
  have run : codeAny (model X.prog X.w) X.A (.call (.ref g) ⟨[.ref f], []⟩) (CR C8.CX0 X.stack X.prog X.w H1 s1 Q C8.E0) s1 := by
    refine run_ofS (N := Ng) (ps := [a]) (us := [.ref f]) (vs := [.ref f]) lk hcg Sg hr J.env0 (hb s1 [.ref f] J.kIn rfl) (.cons rfl .nil) rfl fun hr1 => ?_
    obtain ⟨t1, w1, w2⟩ := hG f c1 s1 H1 Q (fun E H' Q' => t E σ H' Q') (fun W pn xe E p1 p2 tk hW => pe_act (i := 0) J L hf hfn hfr (hbind _ _ _ _ _) tk hW hr1 (fun A outer s H hr2 => hbody A outer s H E f c1 hr2) hNg hva hd hcd) hco (h H1 eN eA T1)
    exact ⟨t1, w1.nox, w2⟩
  refine wpAny_call (codeAny_mono run fun r s2 z => ?_)
  cases r with
  | error e => exact (show False from z).elim
  | ok fl =>
    cases fl with
    | ret u => exact J.after z
    | next => exact False.elim z
    | brk => exact False.elim z
    | cont => exact False.elim z⟩
end
end Dx
end
section
set_option maxRecDepth 100000
set_option maxHeartbeats 4000000
namespace Dx
open PySem PySem.Spec PyProof.Rows L2 Dl Dw Dz Dy LamX
/-! ### what a def makes of a thunk, over data -/
/-- from the thunk's mirror (by what is wanted of an exception) to the def's -/
abbrev LS := (XW → W PyData) → W B
def TLam (K : KK) (Wo : WO) (S : LS) : (XK → Hp → VK → Prop) → Hp → VK → Prop := fun tl H Q => ∃ (M : Md K Wo) (G : Hp) (t : Rs) (P : B → Rs → Prop) (m : XW → W PyData), Ok M t G H ∧
  (∀ (Ex : XW) (t1 : Rs) (G1 H1 : Hp) (P1 : PyData → Rs → Prop) (Q1 : VK) (E1 : XK), Ok M t1 G1 H1 → Stp M t1 G H G1 H1 → m Ex t1 P1 → (∀ (G' H' : Hp) (v : V) (x : PyData) (t' : Rs), Stp M t' G1 H1 G' H' → De K G' v x → P1 x t' → Q1 v H') → (∀ cls d H', EK M G1 H1 Ex cls d H' → E1 cls d H') → tl E1 H1 Q1) ∧
  S m t P ∧ (∀ (G' H' : Hp) (v : V) (x : PyData) (t' : Rs), Stp M t' G H G' H' → De K G' v x → P (.d x) t' → Q v H') ∧
  (∀ (G' H' : Hp) (l : Addr) (ws : List V) (xs : List PyData) (t' : Rs), Stp M t' G H G' H' → H l = none → G' l = none → H' l = some (.lst ws) → DeAll K G' ws xs → P (.own xs) t' → Q (.ref l) H')
section
variable {K : KK} {Wo : WO} {M : Md K Wo} {t : Rs} {G H G1 H1 G2 H2 : Hp} {Ex : XW} {cls : Value} {d : Option Addr}
theorem at_stp (s : Stp M t G H G1 H1) : Stp (M.at_ G2 H2) t G H G1 H1 := ⟨s.gg, s.hh, s.al, s.fr, s.sub, s.rd, s.tb⟩
theorem at_ok (s : Ok M t G H) : Ok (M.at_ G2 H2) t G H := ⟨s.sub, s.gr, s.rd, s.tb⟩
theorem at_ek (z : EK M G H Ex cls d H1) : EK (M.at_ G2 H2) G H Ex cls d H1 := by
  obtain ⟨G', C, dx, fs, ds, t', a, b, k, s, e, f, g⟩ := z
  exact ⟨G', C, dx, fs, ds, t', a, b, at_ok k, at_stp s, e, f, g⟩
theorem ek_at (z : EK (M.at_ G2 H2) G H Ex cls d H1) : EK M G H Ex cls d H1 := by
  obtain ⟨G', C, dx, fs, ds, t', a, b, k, s, e, f, g⟩ := z
  exact ⟨G', C, dx, fs, ds, t', a, b, ok_at k, stp_at s, e, f, g⟩
theorem ok_ne_r (k : Ok M t G H) {c : Addr} {q : Str} (h : H c = some (CodeO c q)) : c ≠ M.r := fun z => by
  obtain ⟨o, e, w⟩ := k.rd
  obtain ⟨vs, rfl⟩ := Wo.rl w
  rw [z, e] at h
  unfold CodeO at h
  cases h
end
/-- the call of the thunk in the def's body -/
def Ask (Y : Cx) {Wo : WO} (M : Md Y.KK Wo) (G H : Hp) (f : Addr) (a : Str) (m : XW → W PyData) : Prop := ∀ (pn : List (Addr × Obj)) (xe : Value → Shared → Prop) (G1 H1 : Hp) (t1 : Rs) (Ex : XW) (ρ : List B) (p1 p2 : Pos), Stp M t1 G H G1 H1 → TkX (Y.tr pn xe) (M.at_ G1 H1) Ex → ρ[0]? = some (.fx f) →
  RD (X := Y.tr pn xe) (M.at_ G1 H1) (.Call (.Name a p1) [] [] p2) ρ (m Ex)
/-- the def's body in its context -/
abbrev Yl (X : Cx) (Ng : List Str) (x : Str) (sg : Scope) (g : Addr) (cdg : Value) (s : Shared) (H : Hp) : Cx := (cxOf C8.CX0 X.prog X.w X.K X.mg X.base Ng x sg g cdg X.A X.stack s H C8.E0).nox
theorem okL {X : Cx} {Ng : List Str} {x a q : Str} {sg : Scope} {g : Addr} {cdg : Value} {bg : List Stmt} {Wo : WO} {S : LS} (hn : 1 ≤ Ng.length)
    (body : ∀ (f : Addr) (s : Shared) (H G : Hp) (M : Md X.KK Wo) (t : Rs) (P : B → Rs → Prop) (m : XW → W PyData), Ask (Yl X Ng x sg g cdg s H) M G H f a m → S m t P →
      JSs (X := Yl X Ng x sg g cdg s H) (M.at_ G H) bg (.fx f :: List.replicate (Ng.length - 1) .un) t { nx := fun _ t' => P (.d .none) t', rt := P }) : GivesTo X Ng x sg g cdg bg a q (TLam X.KK Wo S) := by
  intro f c1 s H Q tl act hc ⟨M, G, t, P, m, ok, ht, hS, q1, q2⟩
  have ask : Ask (Yl X Ng x sg g cdg s H) M G H f a m := fun pn xe G1 H1 t0 Ex ρ p1 p2 s0 T h0 => ⟨fun t1 P1 z => by
    obtain ⟨W, tk, hW⟩ := T.ex
    refine jd_of (act W pn xe (EK M G1 H1 Ex) p1 p2 tk fun cls d σ1 H2 z => hW cls d σ1 H2 (at_ek z)) fun σ G2 H2 S2 Q2 q => ?_
    have s2 := stp_at S2.st
    have k2 := ok_at S2.ok
    have hc1 := s0.hh c1 _ (ok_ne_r ok hc) codeO_ne hc
    have kr : c1 ≠ M.r := ok_ne_r ok hc
    exact ⟨S2.at_ 0 _ h0, s2.hh c1 _ kr codeO_ne hc1, ht Ex t1 G2 H2 P1 Q2 _ k2 (s0.trans s2) z (fun G3 H3 v x t3 s3 d3 p => q G3 H3 v x t3 (at_stp s3) d3 p) fun cls d H3 z => EK.step s2 z⟩⟩
  have sat0 : Sat (M.at_ G H) t G H (L2.start Ng [.ref f]) (.fx f :: List.replicate (Ng.length - 1) .un) := by
    refine ⟨⟨Same.refl G, fun _ _ _ _ e => e, fun _ e => e, fun _ _ e => e, ok.sub, ok.rd, ok.tb⟩, at_ok ok, ?_, fun i b e => ?_, fun i j xs ys l _ e _ _ _ => ?_⟩
    · unfold L2.start
      simp
    · cases i with
      | zero =>
        cases e
        rfl
      | succ i =>
        rw [List.getElem?_cons_succ, List.getElem?_replicate] at e
        split at e <;> cases e
        trivial
    · cases i with
      | zero => cases e
      | succ i =>
        rw [List.getElem?_cons_succ, List.getElem?_replicate] at e
        split at e <;> cases e
  exact ⟨_, pssT, body f s H G M t P m ask hS _ G H sat0 _ ⟨fun σ' G' H' ρ' t' S' _ p => q1 G' H' .non .none t' (stp_at S'.st) .non p, fun _ _ _ _ _ _ _ p => p.elim, fun _ _ _ _ _ _ _ p => p.elim, fun G' H' t' v x s' d p => q1 G' H' v x t' (stp_at s') d p,
    fun G' H' t' l ws xs s' h0 g e d p => q2 G' H' l ws xs t' (stp_at s') h0 g e d p⟩⟩
/-- a def that is given a thunk -/
structure LDef (X : Cx) (Wo : WO) (x : Str) (S : LS) : Prop where
  ex : ∃ (g : Addr) (pg : Arguments) (bg : List Stmt) (sg : Scope) (dV kV doc pm cdv ct oc : Value) (an od : Option Addr) (osl : Array (Option Value)) (Ng : List Str) (a : Str), X.mg x = some (.ref g) ∧ PySem.W.keepIn X.K (.ref g) = true ∧
    X.K.lookup g = some ⟨oc, od, .func (PySem.W.fnOf x x pg bg sg dV kV doc pm an cdv ct), osl⟩ ∧ PySem.W.codeIn X.K cdv x = true ∧ L2.Binds X.K (PySem.W.fnOf x x pg bg sg dV kV doc pm an cdv ct) [a] [] ∧ FnScope Ng [a] sg ∧ Ng[0]? = some a ∧ Vis sg a ∧
    (a == ("__debug__" : Str)) = false ∧ (a == ("__classdict__" : Str)) = false ∧ ∀ q, GivesTo X Ng x sg g cdv bg a q (TLam X.KK Wo S)
section
variable {X : Cx} {Wo : WO} {M : Md X.KK Wo} {ρ ρl : List B} {x : Str} {S : LS} {c P : Addr} {k : Nat} {params : Arguments} {body : Expr} {scope : Scope} {p lpos pos : Pos} {m : XW → W PyData}
theorem sat_lam {t t1 : Rs} {G H G1 H1 : Hp} {σ : L2.St} (S : Sat M t G H σ ρ) (s : Stp M t1 G H G1 H1) (k : Ok M t1 G1 H1) (no : noO ρl = true) (hl : ρl.length = ρ.length) (le : ∀ (i : Nat) (b : B), ρl[i]? = some b → b = .un ∨ ρ[i]? = some b) : Sat (M.at_ G1 H1) t1 G1 H1 σ ρl :=
  ⟨⟨Same.refl G1, fun _ _ _ _ e => e, fun _ e => e, fun _ _ e => e, k.sub, k.rd, k.tb⟩, at_ok k, S.len.trans hl.symm, fun i b e => by
    rcases le i b e with rfl | e2
    · trivial
    · exact slot_at ((S.at_ i b e2).step s) (noO_at no e), fun i j xs ys l _ e _ _ _ => ((noO_at no e).1 xs rfl).elim⟩
/-- f(lambda: body) -/
theorem rd_lam (D : LDef X Wo x S) (hg : Gl X x) (TB : TabB X.base X.mg c P) (hcode : X.env.code = .ref c) (hmT : (P, X.env.qual ++ "<lambda>") ∈ Wo.T) (hu : ∀ p ∈ Wo.T, p.1 = P → p.2 = X.env.qual ++ "<lambda>") (hr : Room (k + 2) X.A) (L : LamS X.env.scope scope) (hdef : defaultsOf params X.env = ([], []))
    (hbind : ∀ (q : Str) (cl : List (Str × Addr)) (pm cv ctv : Value), bindArgs (PySem.W.kla_fn "<lambda>" q params body scope cl pm cv ctv) ⟨[], []⟩ = pure []) (no : noO ρl = true) (hl : ρl.length = ρ.length) (le : ∀ (i : Nat) (b : B), ρl[i]? = some b → b = .un ∨ ρ[i]? = some b)
    (hbody : ∀ (A : Around) (outer : List Env) (s : Shared) (H : Hp) (E : XK) (f c' : Addr) (M1 : Md X.KK Wo) (Ex : XW), Room k (A.deeper (lamEnv X scope s.heap.objs.size f c')) → TkX (lamCx X A outer s H E scope f c') M1 Ex → RD (X := lamCx X A outer s H E scope f c') M1 body ρl (m Ex))
    (hdb : (x == ("__debug__" : Str)) = false := by decide) : RD M (.Call (.Name x p) [.Lambda params body scope lpos] [] pos) ρ (bnd (S m) asD) := ⟨fun t P1 z => by
  obtain ⟨g, pg, bg, sg, dV, kV, doc, pm, cdv, ct, oc, an, od, osl, Ng, a, hm, hk, lk, hcg, hb, Sg, hNg, hva, hd, hcd, hG⟩ := D.ex
  refine jd_of (pe_lam3 (T := Wo.T) (t := fun E σ H Q => ∀ (A : Around) (outer : List Env) (s : Shared) (H0 : Hp) (f c' : Addr), Room k (A.deeper (lamEnv X scope s.heap.objs.size f c')) → TeOf (lamCx X A outer s H0 E scope f c') body σ H Q) hg hm hk lk hcg hb Sg hNg hva (hG _) TB hcode hmT hu hr L hdef hbind
    (fun A outer s H E f c' hr2 => ⟨fun pins s1 σ H1 Q I h => by
      have w := h A outer s H f c' hr2
      unfold TeOf at w
      exact w pins s1 I⟩) hdb hd hcd) fun σ G H S0 Q q => ⟨S0.ok.tb.1, fun H1 eN eA T1 => ?_⟩
  have sub : Same G H1 := fun b u e => eN b u (S0.ok.sub b u e) fun ps z => S0.ok.tb.2 b ps (z ▸ e)
  have s1 : Stp M t G H G H1 := ⟨Same.refl G, fun b o _ nt e => eN b o e nt, eA, fun _ _ e => e, sub, by
    obtain ⟨o, e, w⟩ := S0.ok.rd
    obtain ⟨vs, rfl⟩ := Wo.rl w
    exact ⟨_, eN _ _ e (fun _ z => by cases z), w⟩, T1, S0.ok.tb.2⟩
  have k1 := S0.ok.step s1
  refine ⟨M, G, t, _, m, k1, fun Ex t2 G2 H2 P2 Q2 E2 k2 s2 z2 q2 hE => fun A outer s Hs f c' hr2 => ?_, z, fun G2 H2 v y t2 s2 d2 py => q G2 H2 v y t2 (s1.trans s2) d2 py, fun G2 H2 l ws xs t2 s2 n g e a py =>
    q (upd G2 l (.lst ws)) H2 (.ref l) (.list xs) t2 (s1.trans (s2.freeze n g e)) (.lst upd_same (DeAll.up (fun b u z => by
      rw [upd_ne (ne_of_none z g)]
      exact z) xs ws a)) py⟩
  have tk : TkX (lamCx X A outer s Hs E2 scope f c') (M.at_ G2 H2) Ex := ⟨fun cls d _ H' => E2 cls d H', L2.takes_of rfl rfl rfl rfl, fun cls d _ H' w => hE cls d H' (ek_at w)⟩
  exact (hbody A outer s Hs E2 f c' (M.at_ G2 H2) Ex hr2 tk).run t2 P2 z2 σ G2 H2 (sat_lam S0 (s1.trans s2) k2 no hl le) Q2 fun G3 H3 v y t3 s3 d3 p3 => q2 G3 H3 v y t3 (stp_at s3) d3 p3⟩
end
end Dx
end
section
set_option maxRecDepth 100000
set_option maxHeartbeats 4000000
namespace Dx
open PySem PySem.Spec PyProof.Rows L2 Dl Dw Dz Dy
/-! ### the start of a law with lambdas: the tables stand -/
theorem law_startT {K : KK} {T : List (Addr × Str)} {N : List Str} (hN : 2 ≤ N.length) {a p q : Addr} {H : Hp} {ns : List Int} (hT : LamX.Tabs T H) (hp : H p = none) (ne : q ≠ p) (hq : H q = none) :
    ∃ (M : Md K (W4T T)) (t : Rs) (G : Hp), t.ns.length ≤ 63 ∧ t.draws = 0 ∧ M.G0 = G ∧ Sat M t G (upd (upd H p (.lst ((ns.take 63).map V.int))) q (.lst [.ref p, .int 0, .int 0, .int 0])) ((L2.start N [.ref a]).set 1 (some (.ref q))) (.un :: .rd :: List.replicate (N.length - 2) .un) := by
  have sub : Same (upd (fun _ => none) p (.lst ((ns.take 63).map V.int))) (upd (upd H p (.lst ((ns.take 63).map V.int))) q (.lst [.ref p, .int 0, .int 0, .int 0])) := fun b u e => by
    by_cases hb : b = p
    · subst hb
      rw [upd_same] at e
      rw [upd_ne ne.symm, upd_same]
      exact e
    · rw [upd_ne hb] at e
      cases e
  refine ⟨{ r := q, up := w4_up, G0 := upd (fun _ => none) p (.lst ((ns.take 63).map V.int)), H0 := upd (upd H p (.lst ((ns.take 63).map V.int))) q (.lst [.ref p, .int 0, .int 0, .int 0]) }, ⟨ns.take 63, 0, 0, 0⟩, upd (fun _ => none) p (.lst ((ns.take 63).map V.int)), by rw [List.length_take]; omega, rfl, rfl, ?_⟩
  have ok : Ok (Wo := W4T T) (K := K) { r := q, up := w4_up, G0 := upd (fun _ => none) p (.lst ((ns.take 63).map V.int)), H0 := upd (upd H p (.lst ((ns.take 63).map V.int))) q (.lst [.ref p, .int 0, .int 0, .int 0]) } ⟨ns.take 63, 0, 0, 0⟩ (upd (fun _ => none) p (.lst ((ns.take 63).map V.int))) (upd (upd H p (.lst ((ns.take 63).map V.int))) q (.lst [.ref p, .int 0, .int 0, .int 0])) :=
    ⟨sub, upd_ne ne, ⟨_, upd_same, p, rfl, upd_same⟩, tabs_upd (tabs_upd hT (.inl hp)) (.inl (by rw [upd_ne ne]; exact hq)), nt_upd (fun _ _ z => by cases z) (fun _ z => by cases z)⟩
  have hs : ∀ i : Nat, (.un :: .rd :: List.replicate (N.length - 2) .un : List B)[i]? = some .rd → i = 1 := fun i e => by
    match i, e with
    | 0, e => cases e
    | 1, _ => rfl
    | i + 2, e =>
      rw [List.getElem?_cons_succ, List.getElem?_cons_succ, List.getElem?_replicate] at e
      split at e <;> cases e
  have ho : ∀ (i : Nat) (b : B), (.un :: .rd :: List.replicate (N.length - 2) .un : List B)[i]? = some b → b = .un ∨ b = .rd := fun i b e => by
    match i, e with
    | 0, e => exact .inl (Option.some.inj e).symm
    | 1, e => exact .inr (Option.some.inj e).symm
    | i + 2, e =>
      rw [List.getElem?_cons_succ, List.getElem?_cons_succ, List.getElem?_replicate] at e
      split at e
      · exact .inl (Option.some.inj e).symm
      · cases e
  refine ⟨ok.refl, ok, ?_, fun i b e => ?_, fun i j xs ys l _ e _ _ _ => ?_⟩
  · unfold L2.start
    simp
    omega
  · rcases ho i b e with rfl | rfl
    · trivial
    · obtain rfl := hs i e
      show ((L2.start N [.ref a]).set 1 (some (.ref q)))[1]? = some (some (.ref q))
      unfold L2.start
      rw [List.getElem?_set_self (by simp; omega)]
  · rcases ho i _ e with z | z <;> cases z
end Dx
end
section
set_option maxRecDepth 100000
set_option maxHeartbeats 4000000
namespace Dx
open PySem PySem.Spec PyProof.Rows L2 Dl Dw Dz Dy
section
variable {X : Cx} {Wo : WO} {M : Md X.KK Wo} {ρ : List B} {c : Expr} {pos pos' np : Pos} {tf : W Bool} {α τ σ : Type} {emb : τ → List B} {emc : σ → List B} {eme emeS : α → List B} {rest body other suite : List Stmt} {m : W (Out τ σ)} {b₀ : Stmt} {x n : Str} {CS : Addr} {i : Nat}
/-- if c: body .., where c is true -/
theorem rs_ifT {ka : W (Out α σ)} {k : α → W (Out τ σ)} (hc : RT M c ρ tf) (ha : RS M body ρ eme emc ka) (hk : ∀ s, RS M rest (eme s) emb emc (k s)) : RS M (.If c body other pos :: rest) ρ emb emc (bnd tf fun b => need (b = true) (joi ka k)) := ⟨fun t P D z n => jss_if ((hc.run t _ z).imp fun b t1 ⟨hb, z1⟩ => by
  refine ⟨fun _ => ha.run t1 _ _ z1 fun o t2 w => ?_, fun e => by rw [hb] at e; cases e⟩
  cases o with
  | nx s => exact (hk s).run t2 P D w n
  | ct s => exact n _ _ w
  | bk s => exact n _ _ w
  | rt b => exact n _ _ w)⟩
/-- if c: body, where c is false -/
theorem rs_ifF (hc : RT M c ρ tf) (hk : RS M rest ρ emb emc m) : RS M (.If c body [] pos :: rest) ρ emb emc (bnd tf fun b => need (b = false) m) := ⟨fun t P D z n => jss_if0 ((hc.run t _ z).imp fun b t1 ⟨hb, z1⟩ => ⟨fun e => (by rw [hb] at e; cases e), fun _ => hk.run t1 P D z1 n⟩)⟩
/-- how it goes on behind a block that runs once -/
def outK (k : α → W (Out τ σ)) : Out α Empty → W (Out τ σ)
  | .nx s => k s
  | .rt b => ret (.rt b)
  | .ct s => nomatch s
  | .bk s => nomatch s
/-- try: body / except C as e: suite; fits: the classes that are C's -/
def tryW (fits : Addr → Prop) (kb : XW → W (Out α Empty)) (ks : Addr → List (PyData × PyData) → W (Out α Empty)) (k : α → W (Out τ σ)) : W (Out τ σ) := fun t P => kb (fun xd t1 => fits xd.C ∧ ks xd.C xd.fs t1 fun o t2 => outK k o t2 P) t fun o t1 => outK k o t1 P
theorem rs_try {fits : Addr → Prop} {kb : XW → W (Out α Empty)} {ks : Addr → List (PyData × PyData) → W (Out α Empty)} {k : α → W (Out τ σ)} {nb : Empty → List B} (hs : X.stack = X.env :: X.outer) (hf : X.env.frame = some X.env.locals) (hN : X.N.Nodup) (hi : X.N[i]? = some n) (hln : X.env.kindOf n = some .local) (hc : Names X x (.ref CS)) (no : noO ρ = true) (hl : ρ.length = X.N.length)
    (hx : ∀ C, fits C → PySem.W.exmOne X.K (.ref C) (.ref CS) = some true)
    (hb : ∀ (t : Rs) (G H : Hp), Stp M t M.G0 M.H0 G H → Ok M t G H → ∀ (pn : List (Addr × Obj)) (xe : Value → Shared → Prop) (Ex : XW), TkX (X.tr pn xe) (M.at_ G H) Ex → PassesOwn (model X.prog X.w) X.A X.env xe → RS (X := X.tr pn xe) (M.at_ G H) body ρ eme nb (kb Ex))
    (hsu : ∀ (t : Rs) (G H : Hp), Stp M t M.G0 M.H0 G H → Ok M t G H → ∀ (a : Addr) (pn : List (Addr × Obj)) (C : Addr) (ds : List (PyData × PyData)), RS (X := X.suite a pn) (M.at_ G H) (b₀ :: suite) ((List.replicate ρ.length B.un).set i (.d (excD C ds))) emeS nb (ks C ds))
    (hle : ∀ s, Le ((emeS s).set i .un) (eme s)) (hk : ∀ s, RS M rest (eme s) emb emc (k s)) : RS M (.Try body [.ExceptHandler (some (.Name x np)) (some n) (b₀ :: suite) pos'] [] [] pos :: rest) ρ emb emc (tryW fits kb ks k) := ⟨fun t P D z w => by
  refine jss_cons (js_tr (Ex := fun xd t1 => fits xd.C ∧ ks xd.C xd.fs t1 fun o t2 => outK k o t2 P) hs hf hN hi hln hc no hl (fun C ds t1 h => hx C h.1) (fun G H st ok pn xe T po => (hb t G H st ok pn xe _ T po).run t _ _ z fun o t1 q => ?_) fun G H st ok a pn C ds t1 h => (hsu t G H st ok a pn C ds).run t1 _ _ h.2 fun o t2 q => ?_)
  · cases o with
    | nx s => exact (hk s).run t1 P D q w
    | ct s => exact nomatch s
    | bk s => exact nomatch s
    | rt b => exact w _ _ q
  · cases o with
    | nx s => exact jss_le (hle s) ((hk s).run t2 P D q w)
    | ct s => exact nomatch s
    | bk s => exact nomatch s
    | rt b => exact w _ _ q⟩
end
end Dx
end
section
set_option maxRecDepth 100000
set_option maxHeartbeats 4000000
namespace Dx
open PySem PySem.Spec PyProof.Rows L2 Dl Dw Dz Dy
section
variable {X : Cx} {Wo : WO} {M : Md X.KK Wo} {ρ : List B} {a b : Expr} {f g : W PyData} {pos : Pos}
/-! == and != where an exception may be handled -/
theorem rd_eqH (hu : X.A.units + 64 < cLine) (ha : RD M a ρ f) (hb : RD M b ρ g) : RD M (.Compare a [.Eq] [b] pos) ρ (op2 oeq f g) := rd_cmp (r := Dw.rEqD X.KK) (op_eqD hu) (nomark _) ob_eq ha hb
theorem rd_neH (hu : X.A.units + 64 < cLine) (ha : RD M a ρ f) (hb : RD M b ρ g) : RD M (.Compare a [.NotEq] [b] pos) ρ (op2 one_ f g) := rd_cmp (r := Dw.rNeD X.KK) (op_neD hu) (nomark _) ob_ne ha hb
theorem rt_eqH (hu : X.A.units + 64 < cLine) (ha : RD M a ρ f) (hb : RD M b ρ g) : RT M (.Compare a [.Eq] [b] pos) ρ (bnd (op2 oeq f g) asB) := rt_cmp (r := Dw.rEqD X.KK) (op_eqD hu) (nomark _) ob_eq ha hb
theorem rt_neH (hu : X.A.units + 64 < cLine) (ha : RD M a ρ f) (hb : RD M b ρ g) : RT M (.Compare a [.NotEq] [b] pos) ρ (bnd (op2 one_ f g) asB) := rt_cmp (r := Dw.rNeD X.KK) (op_neD hu) (nomark _) ob_ne ha hb
theorem unitsH {k : Nat} {A : Around} (h : L2H.RoomH k A) : A.units + 64 < cLine := by
  have := h.un
  omega
end
end Dx
end
section
set_option maxRecDepth 100000
set_option maxHeartbeats 4000000
namespace Dx
open PySem PySem.Spec PyProof.Rows L2 Dl Dw Dz Dy
/-! ### xs.count(x) of data -/
def rCountD (K : PySem.W.Frag) : V → List V → Hp → VK → Prop := fun x xs H Q => ∃ (l : Addr) (y : V) (d : PyData) (ds : List PyData), x = V.ref l ∧ xs = [y] ∧ Dp K H (V.ref l) (.list ds) ∧ Dp K H y d ∧ SeqAt.shaped (.list ds) = true ∧ SeqAt.shaped d = true ∧ Q (.int (ds.countP fun z => PyData.eqv z d : Nat)) H
theorem mt_countD {X : Cx} (hu : X.A.units + 65 < cLine) : MtR X "list.count" (rCountD X.K) := by
  intro pins s0 σ H x xs v us Q I rx rxs hh
  obtain ⟨l, y, d, ds, rfl, rfl, hl, hy, sl, sd, q⟩ := hh
  cases rx
  obtain ⟨uy, rfl, ry⟩ := rxs.one
  obtain ⟨bs, rb⟩ := Dp.reads I d y uy hy ry
  cases hl with
  | lst hs ha =>
    obtain ⟨its, rv, ⟨⟨cls, dd, data, sls⟩, n, ho, hc, hdn, hdt⟩, hlen⟩ := I.list hs
    simp only at hc hdt
    subst hc hdt
    obtain ⟨as, ra⟩ := Dp.readsAll I ds _ its ha rv
    have lay : PyData.canLayAll0 ds = true := SeqAt.canLay_of_shaped sl
    have map_ : its.map (SeqAt.readOf s0.heap) = ds := SeqAt.readsAll_map ds its as lay ra
    refine call_meets PySem.F.slot_list_count ⟨_, ho, rfl⟩ PySem.F.entry_list_count (PySem.F.args_list_count_2 _ _) (SeqAt.list_countAt l its.toArray n dd sls uy fun u => PyData.eqv (SeqAt.readOf s0.heap u) d)
      ⟨ho, SeqAt.items_eqAt (vs := its.toArray) (show ReadsAll s0.heap its.toArray.toList ds as from ra) rb lay (SeqAt.canLay_of_shaped sd) (room_in_shaped sd hu), ?_⟩
    have e : its.toArray.toList.countP (fun u => PyData.eqv (SeqAt.readOf s0.heap u) d) = ds.countP fun z => PyData.eqv z d := by
      rw [← map_, List.countP_map]
      rfl
    rw [e]
    exact ⟨.int _, H, I.tok _, ⟨_, rfl⟩, q⟩
def cntW (f g : W PyData) : W PyData := bnd f fun x => match x with
  | .list xs => bnd g fun y => need (SeqAt.shaped (.list xs) = true ∧ SeqAt.shaped y = true) (Dw.ret (PyData.int (xs.countP fun z => PyData.eqv z y : Nat)))
  | _ => bad
section
variable {X : Cx} {Wo : WO} {M : Md X.KK Wo} {ρ : List B} {a b : Expr} {f g : W PyData} {cpos apos : Pos}
theorem rd_count (hu : X.A.units + 65 < cLine) (ha : RD M a ρ f) (hb : RD M b ρ g) (h3 : starEach [b] X.env = (false, eval b X.env) :: starEach [] X.env := by rfl)
    (h1 : attributeBase a "count" X.env (eval a X.env) = eval a X.env := by rfl)
    (h2 : ((((backTo cpos (starEach [b] X.env)).all fun x => !x.1) && (backToKw cpos (keywordEach [] X.env)).all fun x => x.1.isSome) && decide (([b].length + ([] : List Keyword).length + if ([] : List Keyword).isEmpty = true then 0 else 1) < 30)) = true := by rfl)
    (h4 : (apos.endLine == cpos.line) = true := by rfl) (h5 : ((backTo cpos (starEach [] X.env)).any fun x => x.1) = false := by rfl) : RD M (.Call (.Attribute a "count" apos) [b] [] cpos) ρ (cntW f g) := ⟨fun t P z =>
  jd_of (pe_bm PySem.F.plainAttrs_list PySem.F.slot_list_count PySem.F.type_list_count (mt_countD hu) peT (pa_cons peT pa_nil h3) h1 h2 h4 h3 h5) fun σ G H S Q q => (ha.run t _ z) σ G H S _ fun G1 H1 v x t1 s1 d1 z1 => by
    cases x <;> first | exact z1.elim | skip
    rename_i xs
    obtain ⟨a1, ws, rfl, st, da⟩ := d1.lstE
    refine ⟨.inl ⟨rfl, ws, .inl (.inl ((S.step s1).ok.sub _ _ st))⟩, (hb.run t1 _ z1) σ G1 H1 (S.step s1) _ fun G2 H2 u y t2 s2 d2 z2 => ?_⟩
    have k2 := ((S.step s1).step s2).ok
    have d1' : De X.KK G2 (.ref a1) (.list xs) := De.up s2.gg _ _ (.lst st da)
    exact ⟨a1, u, y, xs, rfl, rfl, De.dpS z2.1.1 (De.up k2.sub _ _ d1'), De.dpS z2.1.2 (De.up k2.sub _ _ d2), z2.1.1, z2.1.2, q G2 H2 _ _ t2 (s1.trans s2) (.int _) z2.2⟩⟩
end
end Dx
end
section
set_option maxRecDepth 100000
set_option maxHeartbeats 4000000
namespace Dx
open PySem PySem.Spec PyProof.Rows L2 Dl Dw Dz Dy
/-! ### a law with guards and tables -/
section
variable {P : Program} {w : World} {K : PySem.W.Frag} {mg : Str → Option Value}
/-- the tables stand empty -/
def Tabs0 (cs : List (Addr × Addr)) (G : Hp) : Prop := ∀ p ∈ cs, G p.2 = some (.tbl #[])
theorem law_callGT {mb : Str → Option Value} {k : Nat} {fa c : Addr} {fd : FuncData} {x : Str} {sp : Sp} {s1 : Shared} {cells : List Value} {ns : List Int} {cs : List (Addr × Addr)}
    (inK : K.In s1.heap) (hm : s1.heap.Ns mainGlobals mg) (hb : s1.heap.Ns builtinsNs mb) (hbb : ∀ x : Str, x ≠ "__name__" → mb x = bootBuiltins x) (free : s1.heap.NoLimit) (hg : s1.gens = #[])
    (empt : ∀ p ∈ cs, s1.heap.get? p.2 = some { cls := .none, data := .fields #[] }) (offK : ∀ p ∈ cs, K.lookup p.2 = none) (heads : ∀ p ∈ cs, PySem.W.CodeHd s1.heap p.1 p.2)
    (bmod : ∃ (m : Addr) (om : Obj), mg "__builtins__" = some (.ref m) ∧ m ≠ builtinsNs ∧ s1.heap.get? m = some om ∧ om.cls = .type "module" ∧ om.dict = some builtinsNs ∧ om.data = .plain)
    (hc : s1.heap.get? c = some { cls := .type "list", data := .seq cells.toArray }) (hi : IntsAre cells ns) (hl : ns.length ≤ sizeLine) (hr : Room k callerA)
    (F : ∀ low : Heap, K.In low → low.Ns mainGlobals mg → (∀ p ∈ cs, LamX.TabB low mg p.1 p.2) → FnG P w K mg low k fa fd [x] sp) (bd : ∀ (s : Shared) (u : Value), BindsTo s fd ⟨[u], []⟩ [(x, u)])
    (hsp : ∀ H : Hp, Tabs0 cs H → SqL K H c (ns.map V.int) → sp [.ref c] H (fun v _ => v = .bl true) fun _ _ _ => False) :
    codeAny (model P w) callerA (.call (.ref fa) ⟨[.ref c], []⟩) (fun r s' => r = .ok (.ret (.bool true)) ∧ OldK s1.heap s'.heap ∧ s'.os = s1.os ∧ AllBare s'.gens) s1 := by
  have rel := vals_ints hi
  have same := hi.length
  let Ts := cs.map Prod.snd
  have tabAt : ∀ b, b ∈ Ts → s1.heap.get? b = some { cls := .none, data := .fields #[] } := fun b z => by
    obtain ⟨p, hp, rfl⟩ := List.mem_map.mp z
    exact empt p hp
  have cT : c ∉ Ts := fun z => by
    have y := tabAt c z
    rw [hc] at y
    have y2 := congrArg Obj.data (Option.some.inj y)
    exact absurd (show Data.seq cells.toArray _ = Data.fields #[] from y2) (by intro q; cases q)
  have main : ∀ G : Hp, Tabs0 cs G → (∀ b, G b = none ∨ b ∈ Ts ∨ ∃ o xs, G b = some (.frz o (.lst xs))) → SqL K G c (ns.map V.int) → HOk P w G s1.heap → (∀ b, G b ≠ none → b = c ∨ b ∈ Ts) → (G c ≠ none → K.lookup c = none) →
      codeAny (model P w) callerA (.call (.ref fa) ⟨[.ref c], []⟩) (fun r s' => r = .ok (.ret (.bool true)) ∧ OldK s1.heap s'.heap ∧ s'.os = s1.os ∧ AllBare s'.gens) s1 := by
    intro G t0 only sq hok just notK
    -- what is neither a list nor an empty table stands untracked
    have clear : ∀ {b : Addr} {o : Obj}, s1.heap.get? b = some o → (∀ xs n, o.data ≠ .seq xs n) → o.data ≠ .fields #[] → G b = none := fun {b o} e h1 h2 => by
      by_cases z : G b = none
      · exact z
      · rcases just b z with y | y
        · subst y
          rw [hc] at e
          obtain rfl := Option.some.inj e
          exact absurd rfl (h1 _ _)
        · rw [tabAt b y] at e
          obtain rfl := Option.some.inj e
          exact absurd rfl h2
    have low : ∀ {b : Addr} {m : Str → Option Value}, s1.heap.Ns b m → (hidT s1.heap G).Ns b m := fun {b m} z => by
      obtain ⟨o, es, ep, e, d, r⟩ := z
      exact ⟨o, es, ep, hidT_get e (clear e (by rw [d]; intro _ _ y; cases y) (by rw [d]; intro y; cases y)), d, r⟩
    have lowK : K.In (hidT s1.heap G) := fun b o e => hidT_get (inK b o e) (by
      by_cases z : G b = none
      · exact z
      · rcases just b z with y | y
        · subst y
          rw [notK z] at e
          cases e
        · obtain ⟨p, hp, rfl⟩ := List.mem_map.mp y
          rw [offK p hp] at e
          cases e)
    have md : Mod K mg (hidT s1.heap G) := ⟨lowK, low hm, ⟨mb, low hb, hbb⟩, by
      obtain ⟨mc, z1, z2⟩ := free
      exact ⟨mc, low z1, z2⟩⟩
    have tabs : ∀ p ∈ cs, LamX.TabB (hidT s1.heap G) mg p.1 p.2 := fun p hp => by
      have e0 := empt p hp
      obtain ⟨og, eg, pg, hog, dog, _⟩ := hm
      have gP : mainGlobals ≠ p.2 := fun z => by
        rw [z, e0] at hog
        obtain rfl := Option.some.inj hog
        cases dog
      refine ⟨?_, ?_, gP⟩
      · obtain ⟨o, us, a1, a2, a3, a4, a5, a6, a7, b1, b2, b3, b4, b5⟩ := heads p hp
        exact ⟨o, us, a1, a2, a3, a4, a5, a6, a7, hidT_get b1 (clear b1 (by rw [b3]; intro _ _ y; cases y) (by
          rw [b3]
          intro y
          cases y
          simp at b4)), b2, b3, b4, b5⟩
      · obtain ⟨m, om, m1, m2, m3, m4, m5, m6⟩ := bmod
        refine ⟨m, om, m1, m2, fun z => ?_, fun z => ?_, hidT_get m3 (clear m3 (by rw [m6]; intro _ _ y; cases y) (by rw [m6]; intro y; cases y)), m4, m5, m6⟩
        · rw [z, hog] at m3
          obtain rfl := Option.some.inj m3
          rw [dog] at m6
          cases m6
        · rw [z, e0] at m3
          obtain rfl := Option.some.inj m3
          cases m6
    have env : Env0 P w K mg (hidT s1.heap G) callerA [] s1 G := ⟨rfl, md, fun b o e => of_hidT e, Nat.le_of_eq (hidT_size _ _), trivial, (fun b z => absurd (show b ∈ ([] : List Addr) from z) List.not_mem_nil), hok, .of_eq hg⟩
    have go := (F _ lowK (low hm) tabs).run callerA [] s1 G ⟨[.ref c], []⟩ [.ref c] [.ref c] _ _ rfl hr env (bd s1 (.ref c)) (.cons rfl .nil) (hsp G t0 sq)
    refine codeAny_mono go fun r s2 h => ?_
    match r, h with
    | .error e, h => exact (show False from h).elim
    | .ok .next, h => exact (show False from h).elim
    | .ok .brk, h => exact (show False from h).elim
    | .ok .cont, h => exact (show False from h).elim
    | .ok (.ret u), h =>
      obtain ⟨v, G2, os, bare, un, hok2, r2, q⟩ := h
      obtain rfl : v = V.bl true := q
      obtain rfl : u = Value.bool true := r2
      have stay : ∀ b o, b ∉ Ts → s1.heap.get? b = some o → s2.heap.get? b = some o := fun b o nb e => by
        rcases only b with z | z | ⟨ob, xs, z⟩
        · exact un.keep b o e z (fun y => absurd (show b ∈ ([] : List Addr) from y) List.not_mem_nil) (by simp)
        · exact absurd z nb
        · obtain ⟨e1, _⟩ := hok b _ z
          obtain ⟨e2, _⟩ := hok2 b _ (un.frzs b ob _ z)
          rw [e] at e1
          rw [Option.some.inj e1]
          exact e2
      have more : ∀ p ∈ cs, ∃ us : Array Value, s2.heap.get? p.2 = some { cls := .none, data := .fields us } := fun p hp => by
        obtain ⟨us, z⟩ := un.tbls p.2 #[] (t0 p hp)
        exact ⟨_, hok2 p.2 _ z⟩
      refine ⟨rfl, ⟨fun b o e => ?_, fun b o e => ?_⟩, os, bare⟩
      · by_cases z : b ∈ Ts
        · obtain ⟨p, hp, rfl⟩ := List.mem_map.mp z
          obtain ⟨us, y⟩ := more p hp
          rw [empt p hp] at e
          obtain rfl := Option.some.inj e
          exact .inr (.inl ⟨((heads p hp).tab (empt p hp)).isCodeTable, rfl, #[], us, rfl, by rw [Array.empty_append]; exact y⟩)
        · exact .inl (stay b o z e)
      · by_cases z : b ∈ Ts
        · obtain ⟨p, hp, rfl⟩ := List.mem_map.mp z
          obtain ⟨us, y⟩ := more p hp
          exact ⟨_, y⟩
        · exact ⟨o, stay b o z e⟩
  have memT : ∀ p ∈ cs, p.2 ∈ Ts := fun p hp => List.mem_map.mpr ⟨p, hp, rfl⟩
  by_cases hk : K.lookup c = none
  · let G : Hp := fun b => if b = c then some (.frz { cls := .type "list", data := .seq cells.toArray } (.lst (ns.map V.int))) else if b ∈ Ts then some (.tbl #[]) else none
    have gc : G c = some (.frz { cls := .type "list", data := .seq cells.toArray } (.lst (ns.map V.int))) := if_pos rfl
    have gt : ∀ b, b ∈ Ts → G b = some (.tbl #[]) := fun b z => (if_neg (fun y => cT (by rw [← y]; exact z))).trans (if_pos z)
    have gn : ∀ b, b ≠ c → b ∉ Ts → G b = none := fun b y z => (if_neg y).trans (if_neg z)
    refine main G (fun p hp => gt _ (memT p hp)) (fun b => ?_) (.inl (.inr ⟨_, gc⟩)) (fun b u z => ?_) (fun b z => ?_) fun _ => hk
    · by_cases e : b = c
      · rw [e]
        exact .inr (.inr ⟨_, _, gc⟩)
      · by_cases y : b ∈ Ts
        · exact .inr (.inl y)
        · exact .inl (gn b e y)
    · by_cases e : b = c
      · subst e
        obtain rfl := Option.some.inj (gc.symm.trans z)
        exact ⟨hc, by rw [List.length_map]; exact hl, cells, _, rel, hc⟩
      · by_cases y : b ∈ Ts
        · obtain rfl := Option.some.inj ((gt b y).symm.trans z)
          exact tabAt b y
        · rw [gn b e y] at z
          cases z
    · by_cases e : b = c
      · exact .inl e
      · by_cases y : b ∈ Ts
        · exact .inr y
        · exact absurd (gn b e y) z
  · obtain ⟨o, ho⟩ := Option.ne_none_iff_exists'.mp hk
    have e := inK c o ho
    rw [hc] at e
    obtain rfl := Option.some.inj e
    let G : Hp := fun b => if b ∈ Ts then some (.tbl #[]) else none
    have gt : ∀ b, b ∈ Ts → G b = some (.tbl #[]) := fun b z => if_pos z
    have gn : ∀ b, b ∉ Ts → G b = none := fun b z => if_neg z
    refine main G (fun p hp => gt _ (memT p hp)) (fun b => ?_) (.inr ⟨_, cells.toArray, _, ho, rfl, rfl, rfl, by rw [List.size_toArray, same]; exact hl, by simpa using rel⟩) (fun b u z => ?_) (fun b z => ?_) fun z => absurd (gn c cT) z
    · by_cases y : b ∈ Ts
      · exact .inr (.inl y)
      · exact .inl (gn b y)
    · by_cases y : b ∈ Ts
      · obtain rfl := Option.some.inj ((gt b y).symm.trans z)
        exact tabAt b y
      · rw [gn b y] at z
        cases z
    · by_cases y : b ∈ Ts
      · exact .inr y
      · exact absurd (gn b y) z
end
/-- what the head leaves, tables among it -/
theorem walk_ofGT {l : PySem.W.OpenLaw} {n k : Nat} {q : Program} {loose : List Str} {XP : (Str → Option Value) → Heap → Prop} {YP : World → Heap → Prop} {d : DefRec} {Kp : Params → PySem.W.Frag} {sp : World → Sp} {x : Str} {cs : List (Addr × Addr)}
    (hn : l.most = some n) (hn2 : n ≤ sizeLine) (hdf : d.params.defaults = []) (hr : Room k callerA) (hY : ∀ (w : World) (h : Heap), YP w h → (Kp w.params).In h) (hE : ∀ (w : World) (h : Heap), YP w h → ∀ p ∈ cs, h.get? p.2 = some { cls := .none, data := .fields #[] })
    (off : ∀ (w : World), ∀ p ∈ cs, (Kp w.params).lookup p.2 = none) (hh : ∀ (w : World), ∀ p ∈ cs, PySem.W.codeHdIn (Kp w.params) p.1 p.2 = true)
    (F : ∀ (w : World) (mg : Str → Option Value) (fa : Addr) (h : Heap), (Kp w.params).In h → h.Ns mainGlobals mg → mg d.name = some (.ref fa) →
      ∃ fd : FuncData, (∀ (s : Shared) (u : Value), BindsTo s fd ⟨[u], []⟩ [(x, u)]) ∧ ∀ low : Heap, (Kp w.params).In low → low.Ns mainGlobals mg → (∀ p ∈ cs, LamX.TabB low mg p.1 p.2) → FnG l.prog w (Kp w.params) mg low k fa fd [x] (sp w))
    (hsp : ∀ (w : World) (H : Hp) (c : Addr) (ns : List Int), ns.length ≤ n → Tabs0 cs H → SqL (Kp w.params) H c (ns.map V.int) → sp w [.ref c] H (fun v _ => v = .bl true) fun _ _ _ => False) :
    PySem.W.WalkO q loose XP YP l.row.toRowW d [] (fun f vs => PySem.call f vs) := by
  refine Att.attach_call hn hdf fun w s0 s1 mg mb fa o pm cd doc c cells ns G Y ho hd hcd hmg hobj hints hlen hg => ?_
  obtain ⟨fd, bd, hF⟩ := F w mg fa _ (hY w _ Y) G.T.g hmg
  exact law_callGT (hY w _ Y) G.T.g G.T.b G.T.builtins G.T.nolimit hg (hE w _ Y) (off w) (fun p hp => PySem.W.codeHd_of_K (hY w _ Y) (hh w p hp)) G.T.bmain hobj hints (Nat.le_trans hlen hn2) hr hF bd fun H a b => hsp w H c ns hlen a b
end Dx
end
section
set_option maxRecDepth 100000
set_option maxHeartbeats 4000000
namespace Dx
open PySem PySem.Spec PyProof.Rows L2 Dl Dw Dz Dy
/-! ### defs whose code object is known -/
section
variable {P : Program} {w : World} {K : PySem.W.Frag} {mg : Str → Option Value} {base : Heap}
theorem okDc {Wo : WO} {x qual : Str} {st : Stmt} {f : Addr} {fd : FuncData} {N ps : List Str} {k n : Nat} {S : List B → Rs → (B → Rs → Prop) → Prop} (F : Fun K x qual st f fd) (Sc : FnScope N ps (defScope st)) (hn : ps.length = n)
    (body : ∀ (cdv : Value) (A : Around) (outer : List Env) (s : Shared) (H : Hp) (E : XK) (M : Md (kkOf P w K) Wo) (bs : List B) (t : Rs) (Pt : B → Rs → Prop), fd.code = cdv → Room k (Xo P w K mg base N qual st f cdv A outer s H E).A → bs.length = n → S bs t Pt →
      JSs (X := Xo P w K mg base N qual st f cdv A outer s H E) M (defBody st) (bs ++ List.replicate (N.length - n) .un) t { nx := fun _ t' => Pt (.d .none) t', rt := Pt }) : FnOk P w K mg base CX0 (k + 1) f fd ps (spD (kkOf P w K) Wo n S) := by
  obtain ⟨oc, od, kV, doc, pm, an, cdv, ct, osl, rfl, lk, hcd⟩ := F.ex
  refine fn_of lk hcd Sc (fun vs H Q E h => ?_) (fun A outer s H vs Q E hr h => ?_)
  · obtain ⟨M, G, bs, t, Pt, _, a, hl, _⟩ := h
    rw [a.length, hl, hn]
  · obtain ⟨M, G, bs, t, Pt, ok, a, hl, hS, q1, q2⟩ := h
    refine ⟨_, PSs.nox pssT, body cdv A outer s H E (M.at_ G H) bs t Pt rfl hr hl hS (L2.start N vs) G H (sat_start ok a hl) _ ⟨fun σ' G' H' ρ' t' S' _ p => ?_, fun σ' G' H' ρ' t' _ _ p => p.elim, fun σ' G' H' ρ' t' _ _ p => p.elim, fun G' H' t' v x s' d p => ?_, fun G' H' t' l ws xs s' h0 g e d p => ?_⟩⟩
    · exact q1 G' H' .non .none t' ⟨S'.st.gg, S'.st.hh, S'.st.al, S'.st.fr, S'.st.sub, S'.st.rd, S'.st.tb⟩ .non p
    · exact q1 G' H' v x t' ⟨s'.gg, s'.hh, s'.al, s'.fr, s'.sub, s'.rd, s'.tb⟩ d p
    · exact q2 G' H' l ws xs t' ⟨s'.gg, s'.hh, s'.al, s'.fr, s'.sub, s'.rd, s'.tb⟩ h0 g e d p
theorem fnGc_of {x qual : Str} {st : Stmt} {f : Addr} {fd : FuncData} {N ps : List Str} {k : Nat} {sp : Sp} (F : Fun K x qual st f fd) (Sc : FnScope N ps (defScope st)) (len : ∀ ys G Qf Ef, sp ys G Qf Ef → ys.length = ps.length)
    (body : ∀ (cdv : Value) (A : Around) (out : List Env) (s0 : Shared) (G : Hp) (ys : List V) (Qf : VK) (Ef : XK), fd.code = cdv → A.guards = some [] → Room k (A.deeper (envOfC qual (defScope st) s0.heap.objs.size f cdv)) → sp ys G Qf Ef →
      ∃ t, PSs (Xo P w K mg base N qual st f cdv A out s0 G Ef) (defBody st) t ∧ t { nx := fun _ G' => Qf .non G', rt := Qf } (L2.start N ys) G) : FnG P w K mg base (k + 1) f fd ps sp := by
  obtain ⟨oc, od, kV, doc, pm, an, cdv, ct, osl, rfl, lk, hcd⟩ := F.ex
  refine ⟨fun A out s0 G ar xs ys Qf Ef hg hr env bd rv hsp => ?_⟩
  have same := len _ _ _ _ hsp
  have inK : K.In s0.heap := env.mod.kin.keeps fun b o z => (env.bs b o z).1
  have free : s0.heap.NoLimit := env.mod.nolimit.keeps fun b o z => (env.bs b o z).1
  have place : ∀ y ∈ ps.zip xs, (defScope st).names.lookup y.1 = some .local ∨ ((defScope st).names.lookup y.1 = some .cell ∧ ((cellsFrom (s0.heap.objs.size + 1) (defScope st).names []).lookup y.1).isSome = true) := fun y hy => by
    obtain ⟨n, v⟩ := y
    rcases Sc.par n (List.of_mem_zip hy).1 with z | z
    · exact .inl z
    · exact .inr ⟨z, PySem.W.cellsFrom_some _ _ _ (.inl z)⟩
  refine codeAny_call_function hr.depth (inK _ _ lk) rfl Sc.co Sc.gen rfl (PySem.W.codeRec_of inK hcd) (bd _ _ _ _ (wpAny_newFunctionEnv_cells Sc.kind place fun env1 he s1 x1 => ?_))
  subst he
  refine ⟨free.keeps x1.toInCall.keep, codeAny_func ?_⟩
  obtain ⟨t, ht, hq⟩ := body cdv A out s0 G ys Qf Ef rfl hg (hr.deeper _) hsp
  have J := inv_start (CX := CX0) (E := Ef) Sc hr.hd env same rv x1
  refine wpAny_mono (ht.nox.run [] s1 (L2.start N ys) G _ J hq) (fun fl s2 hs => ?_) fun e s2 hs => hs
  cases fl with
  | ret u =>
    obtain ⟨v, σ1, G1, J1, r1, q1⟩ := hs
    exact ⟨v, G1, J1.os, J1.bare, J1.base, J1.hok, r1, q1⟩
  | next =>
    obtain ⟨σ1, G1, J1, q1⟩ := hs
    exact ⟨V.non, G1, J1.os, J1.bare, J1.base, J1.hok, rfl, q1⟩
  | brk =>
    obtain ⟨_, _, _, q1⟩ := hs
    exact q1.elim
  | cont =>
    obtain ⟨_, _, _, q1⟩ := hs
    exact q1.elim
end
/-! ### small words -/
section
variable {X : Cx} {Wo : WO} {M : Md X.KK Wo} {ρ : List B} {e : Expr} {f g : W PyData} {τ σ : Type} {emb : τ → List B} {emc : σ → List B} {b : List Stmt} {m m' : W (Out τ σ)}
/-- nothing is raised -/
abbrev ExF : XW := fun _ _ => False
theorem tkF : TkX X M ExF := ⟨fun _ _ _ _ => False, LamX.takes0, fun cls d σ H' z => by
  obtain ⟨G', C, dx, fs, ds, t', _, _, _, _, _, _, z⟩ := z
  exact z⟩
theorem rs_imp (h : RS M b ρ emb emc m) (i : ∀ t P, m' t P → m t P) : RS M b ρ emb emc m' := ⟨fun t P D z n => h.run t P D (i t P z) n⟩
theorem rd_imp (h : RD M e ρ f) (i : ∀ t P, g t P → f t P) : RD M e ρ g := ⟨fun t P z => h.run t P (i t P z)⟩
end
end Dx
end
section
set_option maxRecDepth 100000
set_option maxHeartbeats 4000000
namespace Dx
open PySem PySem.Spec PyProof.Rows L2 Dl Dw Dz Dy
section
variable {X : Cx}
/-- repr of a bool, a text or None, wherever -/
def rReprP : List V → Hp → VK → Prop := fun xs H Q => ∃ b : Bool, xs = [.bl b] ∧ Q (.str (PyData.bool b).shown) H
theorem cr_reprP : CallR X (.builtin "repr") rReprP := by
  intro pins s σ H xs us Q I r h
  obtain ⟨b, rfl, q⟩ := h
  obtain ⟨u, rfl, rv⟩ := vals1 r
  cases rv
  exact PySem.P.repr_of_bool ⟨.str _, H, I.tok _, ⟨_, rfl⟩, by cases b <;> exact q⟩
/-- repr(b), b a bool -/
def oreprP : PyData → W PyData
  | .bool b => Dw.ret (.str (PyData.bool b).shown)
  | _ => bad
/-- xs * n, a new list -/
def mulL (f g : W PyData) : W (List PyData) := bnd f fun x => match x with
  | .list xs => bnd g fun y => match y with
    | .int k => need (0 ≤ k ∧ k ≤ 1000 ∧ xs.length ≤ 1000) (Dw.ret (List.replicate k.toNat xs).flatten)
    | _ => bad
  | _ => bad
end
section
variable {X : Cx} {Wo : WO} {M : Md X.KK Wo} {ρ ρl : List B} {a b e : Expr} {f g : W PyData} {kk k : Nat} {pos p lpos : Pos} {c P : Addr} {params : Arguments} {body : Expr} {scope : Scope} {x : Str} {S : LS} {m : XW → W PyData}
theorem rd_reprP (E : Ev X kk) (ha : RD M a ρ f) (hs : starEach [a] X.env = (false, eval a X.env) :: starEach [] X.env := by rfl) (hg : Gl X "repr" := by rfl) : RD M (.Call (.Name "repr" p) [a] [] pos) ρ (op1 oreprP f) := ⟨fun t P z =>
  jd_of (pe_callB cr_reprP hg E.bu.repr (by decide +kernel) (pa_cons peT pa_nil hs) (by decide) (by decide) hs rfl) fun σ G H S Q q => (ha.run t _ z) σ G H S _ fun G1 H1 v y t1 s1 d1 z1 => by
    cases y <;> first | exact z1.elim | skip
    rename_i b
    exact ⟨b, by rw [d1.blE], q G1 H1 _ _ t1 s1 (.str _) z1⟩⟩
theorem rl_mulL (ha : RD M a ρ f) (hb : RD M b ρ g) : RL M (.BinOp a .Mult b pos) ρ (mulL f g) := ⟨fun t P z => jl_bin op_rep ((ha.run t _ z).imp fun x t1 z1 => by
  cases x <;> first | exact z1.elim | skip
  rename_i xs
  refine (hb.run t1 _ z1).imp fun y t2 z2 => ?_
  cases y <;> first | exact z2.elim | skip
  rename_i k
  obtain ⟨⟨h1, h2, h3⟩, zP⟩ := z2
  intro G H v w o hv hw Q q
  obtain ⟨a1, vs, rfl, st, da⟩ := hv.lstE
  refine ⟨a1, k, vs, rfl, hw.intE, o.sub _ _ st, by omega, by omega, ?_, fun a3 n3 => ?_⟩
  · rw [da.length, sizeLine_eq]
    have e2 : k.toNat ≤ 1000 := by omega
    exact Nat.le_trans (Nat.mul_le_mul h3 e2) (by decide)
  · exact q _ _ a3 _ _ _ (o.layO n3) n3 (none_of o n3) upd_same (Dz.DeAll.flat da k.toNat) zP)⟩
/-- f(lambda: body), the slots of the body said by Le -/
theorem rd_lamE (D : LDef X Wo x S) (E : Ev X kk) (TB : LamX.TabB X.base X.mg c P) (hcode : X.env.code = .ref c) (hmT : (P, X.env.qual ++ "<lambda>") ∈ Wo.T) (hu : ∀ p ∈ Wo.T, p.1 = P → p.2 = X.env.qual ++ "<lambda>") (hk : k + 2 ≤ kk) (le : Le ρ ρl)
    (hbody : ∀ (A : Around) (outer : List Env) (s : Shared) (H : Hp) (E : XK) (f c' : Addr) (M1 : Md X.KK Wo) (Ex : XW), Room k (A.deeper (LamX.lamEnv X scope s.heap.objs.size f c')) → TkX (LamX.lamCx X A outer s H E scope f c') M1 Ex → RD (X := LamX.lamCx X A outer s H E scope f c') M1 body ρl (m Ex))
    (hg : Gl X x := by rfl) (L : LamX.LamS X.env.scope scope := by exact LamX.lamS_by (by decide +kernel)) (no : noO ρl = true := by rfl) (hdef : defaultsOf params X.env = ([], []) := by rfl)
    (hbind : ∀ (q : Str) (cl : List (Str × Addr)) (pm cv ctv : Value), bindArgs (PySem.W.kla_fn "<lambda>" q params body scope cl pm cv ctv) ⟨[], []⟩ = pure [] := by exact fun _ _ _ _ _ => rfl) (hdb : (x == ("__debug__" : Str)) = false := by decide) : RD M (.Call (.Name x p) [.Lambda params body scope lpos] [] pos) ρ (bnd (S m) asD) :=
  rd_lam D hg TB hcode hmT hu (E.room.mono hk) L hdef hbind no le.len.symm le.at_ hbody hdb
end
/-! ### what a def that asks a thunk tells of it -/
/-- told: what is handed back for an exception; a result is handed back behind a word -/
def saidW (told : XD → Option PyData) (ok : PyData → PyData) : LS := fun m t P => ∀ (Ex : XW) (P1 : PyData → Rs → Prop), (∀ xd v t1, told xd = some v → P (.d v) t1 → Ex xd t1) → (∀ v t1, P (.d (ok v)) t1 → P1 v t1) → m Ex t P1
/-- the def that asks a thunk, in each context -/
def SaidAt (P : Program) (w : World) (K : PySem.W.Frag) (Wo : WO) (mg : Str → Option Value) (base : Heap) (k : Nat) (x : Str) (told : XD → Option PyData) (ok : PyData → PyData) : Prop :=
  ∀ X : Cx, X.prog = P → X.w = w → X.K = K → X.mg = mg → X.base = base → Room k X.A → LDef X Wo x (saidW told ok)
theorem ev_lam {X : Cx} {Wo : WO} {k : Nat} {A : Around} {outer : List Env} {s : Shared} {H : Hp} {E : XK} {scope : Scope} {f c : Addr} {M1 : Md X.KK Wo} {Ex : XW} (_T : TkX (LamX.lamCx X A outer s H E scope f c) M1 Ex) (hr : Room k (A.deeper (LamX.lamEnv X scope s.heap.objs.size f c))) (u : Bb X.mg) : Ev (LamX.lamCx X A outer s H E scope f c) k := ⟨rfl, hr, u⟩
end Dx
end
section
set_option maxRecDepth 100000
set_option maxHeartbeats 4000000
namespace Dx
open PySem PySem.Spec PyProof.Rows L2 Dl Dw Dz Dy
theorem cut63 (ns : List Int) : cutV (ns.map V.int) none (some 63) = (ns.take 63).map V.int := by
  have e0 : HT.sIx (ns.map V.int).length 0 none = 0 := rfl
  have e1 : HT.sIx (ns.map V.int).length (ns.map V.int).length (some 63) = min 63 ns.length := by
    rw [List.length_map]
    unfold HT.sIx
    simp
  unfold cutV
  rw [e0, e1, List.drop_zero, Nat.sub_zero, ← List.map_take]
  by_cases h : 63 ≤ ns.length
  · rw [Nat.min_eq_left h]
  · rw [Nat.min_eq_right (by omega), List.take_of_length_le (Nat.le_refl _), List.take_of_length_le (by omega)]
/-- what the law's reader is made of -/
def spReader (K : PySem.W.Frag) : Sp := fun vs H Q _ => ∃ (a : Addr) (ns : List Int), vs = [.ref a] ∧ SqL K H a (ns.map V.int) ∧ ∀ p q, H p = none → q ≠ p → H q = none → Q (.ref q) (upd (upd H p (.lst ((ns.take 63).map V.int))) q (.lst [.ref p, .int 0, .int 0, .int 0]))
/-- a law, the tables standing: whatever script, True -/
def spLawT (K : PySem.W.Frag) (T : List (Addr × Str)) : Sp := fun vs H Q _ => ∃ (a : Addr) (ns : List Int), vs = [.ref a] ∧ SqL K H a (ns.map V.int) ∧ LamX.Tabs T H ∧ ∀ H', Q (.bl true) H'
theorem tabs_start {cs : List (Addr × Addr)} {T : List (Addr × Str)} {H : Hp} (t0 : Tabs0 cs H) (h : T.map Prod.fst = cs.map Prod.snd) : LamX.Tabs T H := fun p hp => by
  have m : p.1 ∈ cs.map Prod.snd := h ▸ List.mem_map.mpr ⟨p, hp, rfl⟩
  obtain ⟨c, hc, e⟩ := List.mem_map.mp m
  refine ⟨#[], by rw [← e]; exact t0 c hc, by simp [TriplesOk], fun pos cv z => ?_⟩
  simp [codeAmong] at z
theorem tabs_all {ts : List Addr} {cs : List (Addr × Addr)} {h : Heap} (t : ∀ P ∈ ts, h.get? P = some (PySem.W.tabObj #[])) (e : ∀ p ∈ cs, p.2 ∈ ts) : ∀ p ∈ cs, h.get? p.2 = some { cls := .none, data := .fields #[] } := fun p hp => t p.2 (e p hp)
end Dx
end
section
set_option maxRecDepth 100000
set_option maxHeartbeats 4000000
namespace Dx
open PySem PySem.Spec PyProof.Rows L2 Dl Dw Dz Dy
/-! ### x in o, by an own __contains__ -/
section
variable {X : Cx} {k : Nat} {C : Addr}
def rInO (C : Addr) (sp : Sp) : R2 := fun x y H Q => ∃ (b dy : Addr) (gs : List (Str × V)), y = .ref b ∧ H b = some (.ins C dy gs) ∧ sp [y, x] H (fun v H2 => ∃ r, v = .bl r ∧ Q (.bl r) H2) E0
theorem or_inOwn {f : Addr} {fd : FuncData} {ps : List Str} {sp : Sp} (F : FnOk X.prog X.w X.K X.mg X.base CX0 k f fd ps sp) (hr : Room k X.A) (me : Meth X.K C "__contains__" f) (hb : L2.Binds X.K fd ps []) : OpR X (compareOp .In) (rInO C sp) := by
  intro pins s σ H x y v u Q I rx ry q
  obtain ⟨b, dy, gs, rfl, hb2, hs⟩ := q
  cases ry
  obtain ⟨mB, J, _⟩ := ins_get I.hok hb2
  obtain ⟨od, J, _⟩ := J.look
  obtain ⟨m, hF⟩ := I.fr
  refine PySem.W.in_K hF I.ok.mod.kin J me.at_ me.fn ?_
  refine run_back (Y := X) (vs := [.ref b, x]) F hr rfl hb I (.cons rfl (.cons rx .nil)) hs fun v u H' s' I' rv ⟨r, ev, q⟩ => ?_
  subst ev
  cases rv
  exact wpAny_truthy_bool ⟨.bl r, H', I', rfl, q⟩
/-- a == b, by an own ==, b an object of the class or a tuple -/
def rBt (K : PySem.W.Frag) (C : Addr) (sp : Sp) : R2 := fun x y H Q => ∃ (a dx b : Addr) (fs : List (Str × V)), x = .ref a ∧ H a = some (.ins C dx fs) ∧ y = .ref b ∧ ((∃ dy gs, H b = some (.ins C dy gs)) ∨ ∃ vs, SqT K H b vs) ∧ sp [x, y] H (fun v H2 => Q v H2 ∧ ∀ u, RelV v u → u ≠ .notImplemented) E0
theorem or_eqTup {f : Addr} {fd : FuncData} {ps : List Str} {sp : Sp} (nf : PySem.W.notFirst X.K C (.type "tuple") = true) (F : FnOk X.prog X.w X.K X.mg X.base CX0 k f fd ps sp) (hr : Room k X.A) (me : Meth X.K C "__eq__" f) (hb : L2.Binds X.K fd ps []) : OpR X (compareOp .Eq) (rBt X.K C sp) := by
  intro pins s σ H x y v u Q I rx ry q
  obtain ⟨a, dx, b, fs, rfl, ha, rfl, hy, hs⟩ := q
  cases rx
  cases ry
  obtain ⟨mA, J, _⟩ := ins_get I.hok ha
  obtain ⟨od, J, _⟩ := J.look
  obtain ⟨m, hF⟩ := I.fr
  have fin : ∀ tb, PySem.W.notFirst X.K C tb = true → PySem.W.Looks (model X.prog X.w) s.heap (typeOf (.ref b)) tb → wpAny (model X.prog X.w) X.A (compareOp .Eq (.ref a) (.ref b)) (EP X pins σ Q) X.xe s := fun tb h1 h2 => by
    refine PySem.W.cmp_K (op := .Eq) (tb := tb) hr.units0 hF I.ok.mod.kin J h2 h1 me.at_ me.fn ?_
    refine run_back (Y := X) (vs := [.ref a, .ref b]) F hr rfl hb I (.cons rfl (.cons rfl .nil)) hs fun v u H' s' I' rv ⟨q, nn⟩ => ?_
    have nu := nn u rv
    cases u <;> first | exact absurd rfl nu | exact ⟨_, H', I', rv, q⟩
  rcases hy with ⟨dy, gs, hb2⟩ | ⟨vs, hT⟩
  · obtain ⟨mB, J', _⟩ := ins_get I.hok hb2
    obtain ⟨od', J', _⟩ := J'.look
    exact fin (.ref C) (by simp [PySem.W.notFirst]) J'.type
  · obtain ⟨its, r, ⟨⟨cls, dd, data, sl⟩, ho, hc, n, hd⟩, hs2⟩ := I.tuple hT
    refine fin (.type "tuple") nf fun A Q E s1 k1 q1 => wpAny_typeOf_ref (k1 _ _ ho) ?_
    simp only at hc
    rw [hc]
    exact q1
end
def inOW (C : Addr) (h : List B → W B) (x y : PyData) : W PyData := need (isC C y) (bnd (bnd (h [.d y, .d x]) asD) fun z => match z with
  | .bool b => Dw.ret (.bool b)
  | _ => bad)
def eqTW (C : Addr) (h : List B → W B) (x y : PyData) : W PyData := need (isC C x ∧ (isC C y ∨ ∃ ys, y = .tuple ys)) (bnd (h [.d x, .d y]) asD)
/-- isinstance(x, C), x an object of C or a tuple -/
def isiV (C : Addr) (x : PyData) : W PyData := fun t P => (isC C x ∧ P (.bool true) t) ∨ ((∃ xs, x = .tuple xs) ∧ P (.bool false) t)
section
variable {X : Cx} {Wo : WO} {M : Md X.KK Wo} {ρ : List B} {a b e : Expr} {es : List Expr} {f g : W PyData} {af : W (List B)} {kk k n : Nat} {pos p p1 : Pos} {C : Addr} {h : List B → W B} {x : Str}
theorem ob_inO {fa : Addr} {fd : FuncData} {ps : List Str} (h1 : ∀ {t : Rs} {G H : Hp} {vs : List V} {bs : List B} {P : PyData → Rs → Prop}, Ok M t G H → ArgAll M G vs bs → bs.length = 2 → bnd (h bs) asD t P → ∀ {Q : VK},
    (∀ (G2 H2 : Hp) (v : V) (y : PyData) (t2 : Rs), Stp M t2 G H G2 H2 → De X.KK G2 v y → P y t2 → Q v H2) → spD X.KK Wo 2 (Sm h) vs H Q E0) : Ob M (rInO C (spD X.KK Wo 2 (Sm h))) (inOW C h) := fun x y t P ⟨⟨ds, ey⟩, z⟩ => fun G H v w k hv hw Q q => by
  have hw0 := hw
  rw [ey] at hw0
  obtain ⟨b, dy, gs, rfl, hb, _⟩ := De.objE hw0
  refine ⟨b, dy, gs, rfl, k.sub _ _ hb, h1 k (.cons (.d hw) (.cons (.d hv) .nil)) rfl z fun G2 H2 v y t2 s2 d2 p => ?_⟩
  cases y <;> first | exact p.elim | skip
  rename_i r
  exact ⟨r, d2.blE, q G2 H2 _ _ t2 s2 (.bl r) p⟩
theorem ob_eqT (h1 : ∀ {t : Rs} {G H : Hp} {vs : List V} {bs : List B} {P : PyData → Rs → Prop}, Ok M t G H → ArgAll M G vs bs → bs.length = 2 → bnd (h bs) asD t P → ∀ {Q : VK},
    (∀ (G2 H2 : Hp) (v : V) (y : PyData) (t2 : Rs), Stp M t2 G H G2 H2 → De X.KK G2 v y → P y t2 → Q v H2) → spD X.KK Wo 2 (Sm h) vs H Q E0) : Ob M (rBt X.K C (spD X.KK Wo 2 (Sm h))) (eqTW C h) := fun x y t P ⟨⟨⟨ds, ex⟩, hy⟩, z⟩ => fun G H v w k hv hw Q q => by
  have hv0 := hv
  rw [ex] at hv0
  obtain ⟨a, dx, fs, rfl, ha, _⟩ := De.objE hv0
  have hw0 := hw
  have hs : spD X.KK Wo 2 (Sm h) [.ref a, w] H (fun v H2 => Q v H2 ∧ ∀ u, RelV v u → u ≠ .notImplemented) E0 := h1 k (.cons (.d hv) (.cons (.d hw) .nil)) rfl z fun G2 H2 v y t2 s2 d2 p => ⟨q G2 H2 v y t2 s2 d2 p, fun u r => De.back d2 r⟩
  rcases hy with ⟨es, ey⟩ | ⟨ys, ey⟩
  · rw [ey] at hw0
    obtain ⟨b, dy, gs, rfl, hb, _⟩ := De.objE hw0
    exact ⟨a, dx, b, fs, rfl, k.sub _ _ ha, rfl, .inl ⟨dy, gs, k.sub _ _ hb⟩, hs⟩
  · rw [ey] at hw0
    obtain ⟨b, vs, rfl, st, _⟩ := hw0.tupE
    exact ⟨a, dx, b, fs, rfl, k.sub _ _ ha, rfl, .inr ⟨vs, sqt_up k.sub st⟩, hs⟩
theorem rd_inO (E : Ev X kk) (D : MDef X.prog X.w X.K Wo X.mg X.base k C "__contains__" 2 (Sm h)) (ha : RD M a ρ f) (hb : RD M b ρ g) (hk : k ≤ kk := by decide) (hm : behindInMarks .In b = false := by rfl) : RD M (.Compare a [.In] [b] pos) ρ (op2 (inOW C h) f g) := by
  obtain ⟨fa, fd, ps, F, me, bd⟩ := D.ex
  exact rd_cmp (or_inOwn F (E.room.mono hk) me bd) hm (ob_inO (fa := fa) (fd := fd) (ps := ps) fun k aa hn hs Q q => call_sp k aa hn hs q) ha hb
theorem rd_eqT (E : Ev X kk) (nf : PySem.W.notFirst X.K C (.type "tuple") = true) (D : MDef X.prog X.w X.K Wo X.mg X.base k C "__eq__" 2 (Sm h)) (ha : RD M a ρ f) (hb : RD M b ρ g) (hk : k ≤ kk := by decide) : RD M (.Compare a [.Eq] [b] pos) ρ (op2 (eqTW C h) f g) := by
  obtain ⟨fa, fd, ps, F, me, bd⟩ := D.ex
  exact rd_cmp (or_eqTup nf F (E.room.mono hk) me bd) (nomark _) (ob_eqT fun k aa hn hs Q q => call_sp k aa hn hs q) ha hb
theorem rt_eqT (E : Ev X kk) (nf : PySem.W.notFirst X.K C (.type "tuple") = true) (D : MDef X.prog X.w X.K Wo X.mg X.base k C "__eq__" 2 (Sm h)) (ha : RD M a ρ f) (hb : RD M b ρ g) (hk : k ≤ kk := by decide) : RT M (.Compare a [.Eq] [b] pos) ρ (bnd (op2 (eqTW C h) f g) asB) := by
  obtain ⟨fa, fd, ps, F, me, bd⟩ := D.ex
  exact rt_cmp (or_eqTup nf F (E.room.mono hk) me bd) (nomark _) (ob_eqT fun k aa hn hs Q q => call_sp k aa hn hs q) ha hb
theorem ty_tup {K : KK} {G H : Hp} {a : Addr} {vs : List V} (s : Same G H) (h : SqT K G a vs) : TyX K H (.ref a) (.type "tuple") := by
  have h := sqt_up s h
  rcases h with (e | ⟨o, e⟩) | ⟨oc, its, n, lk, hc, _⟩
  · exact .base (.tup e)
  · exact .fTuple e
  · exact .kTuple lk hc
/-- isinstance(e, C), e an object of C or a tuple -/
theorem rd_isiV (E : Ev X kk) (c : Kls X.K C) (nk : PySem.W.kitOne X.K (.type "tuple") (.ref C) = some false) {p2 : Pos} (ha : RD M a ρ f) (hm : X.mg x = some (.ref C)) (hg2 : Gl X x := by rfl) (hg : Gl X "isinstance" := by rfl) (hdb : (x == ("__debug__" : Str)) = false := by decide)
    (h3 : starEach [a, .Name x p2] X.env = (false, eval a X.env) :: starEach [.Name x p2] X.env := by rfl)
    (h4 : ((backTo pos (starEach [.Name x p2] X.env)).any fun x => x.fst) = false := by rfl) (h5 : starEach [.Name x p2] X.env = (false, eval (.Name x p2) X.env) :: starEach [] X.env := by rfl) : RD M (.Call (.Name "isinstance" p1) [a, .Name x p2] [] pos) ρ (bnd f (isiV C)) := ⟨fun t P z => by
  refine jd_of (pe_callB call_isi hg E.bu.isi boot_isinstance (pa_cons peT (pa_cons (pe_glob (v := .ref C) hg2 hm rfl hdb) pa_nil h5) h3) (by decide) (by decide) h3 h4) fun σ G H S Q q =>
    (ha.run t _ z) σ G H S _ fun G1 H1 v y t1 s1 d1 z1 => ?_
  rcases z1 with ⟨⟨ds, ey⟩, p⟩ | ⟨⟨xs, ey⟩, p⟩
  · subst ey
    obtain ⟨b, dx, fs, rfl, hi, hf⟩ := De.objE d1
    exact ⟨.ref b, .ref C, .ref C, .ref C, true, rfl, .own C, .base (.ins ((S.step s1).ok.sub _ _ hi) c.cl c.ha c.hn c.ht c.hm), c.ki, q G1 H1 _ _ t1 s1 (.bl true) p⟩
  · subst ey
    obtain ⟨b, vs, rfl, st, _⟩ := d1.tupE
    exact ⟨.ref b, .ref C, .type "tuple", .ref C, false, rfl, .own C, ty_tup (S.step s1).ok.sub st, nk, q G1 H1 _ _ t1 s1 (.bl false) p⟩⟩
end
/-! ### defs that are called where nothing is being shown -/
structure DefG (P : Program) (w : World) (K : PySem.W.Frag) (Wo : WO) (mg : Str → Option Value) (base : Heap) (k : Nat) (x : Str) (n : Nat) (S : List B → Rs → (B → Rs → Prop) → Prop) : Prop where
  ex : ∃ (f : Addr) (fd : FuncData) (ps : List Str), FnG P w K mg base k f fd ps (spD (kkOf P w K) Wo n S) ∧ ps.length = n ∧ mg x = some (.ref f) ∧ PySem.W.keepIn K (.ref f) = true ∧ Binds K fd ps []
section
variable {P : Program} {w : World} {K : PySem.W.Frag} {mg : Str → Option Value} {base : Heap}
theorem okDG {Wo : WO} {x qual : Str} {st : Stmt} {f : Addr} {fd : FuncData} {N ps : List Str} {k n : Nat} {S : List B → Rs → (B → Rs → Prop) → Prop} (F : Fun K x qual st f fd) (Sc : FnScope N ps (defScope st)) (hn : ps.length = n)
    (body : ∀ (cdv : Value) (A : Around) (outer : List Env) (s : Shared) (H : Hp) (E : XK) (M : Md (kkOf P w K) Wo) (bs : List B) (t : Rs) (Pt : B → Rs → Prop), fd.code = cdv → (Xo P w K mg base N qual st f cdv A outer s H E).A.guards = some [] → Room k (Xo P w K mg base N qual st f cdv A outer s H E).A → bs.length = n → S bs t Pt →
      JSs (X := Xo P w K mg base N qual st f cdv A outer s H E) M (defBody st) (bs ++ List.replicate (N.length - n) .un) t { nx := fun _ t' => Pt (.d .none) t', rt := Pt }) : FnG P w K mg base (k + 1) f fd ps (spD (kkOf P w K) Wo n S) := by
  refine fnGc_of F Sc (fun vs H Q E h => ?_) (fun cdv A outer s H vs Q E hcd hg hr h => ?_)
  · obtain ⟨M, G, bs, t, Pt, _, a, hl, _⟩ := h
    rw [a.length, hl, hn]
  · obtain ⟨M, G, bs, t, Pt, ok, a, hl, hS, q1, q2⟩ := h
    refine ⟨_, pssT, body cdv A outer s H E (M.at_ G H) bs t Pt hcd hg hr hl hS (L2.start N vs) G H (sat_start ok a hl) _ ⟨fun σ' G' H' ρ' t' S' _ p => ?_, fun σ' G' H' ρ' t' _ _ p => p.elim, fun σ' G' H' ρ' t' _ _ p => p.elim, fun G' H' t' v x s' d p => ?_, fun G' H' t' l ws xs s' h0 g e d p => ?_⟩⟩
    · exact q1 G' H' .non .none t' ⟨S'.st.gg, S'.st.hh, S'.st.al, S'.st.fr, S'.st.sub, S'.st.rd, S'.st.tb⟩ .non p
    · exact q1 G' H' v x t' ⟨s'.gg, s'.hh, s'.al, s'.fr, s'.sub, s'.rd, s'.tb⟩ d p
    · exact q2 G' H' l ws xs t' ⟨s'.gg, s'.hh, s'.al, s'.fr, s'.sub, s'.rd, s'.tb⟩ h0 g e d p
end
section
variable {X : Cx} {k : Nat} {f : Addr} {fd : FuncData} {ps : List Str} {sp : Sp} {x : Str} {q pos : Pos} {e : Expr} {es : List Expr} {t : TA}
theorem run_fnG {pins : List (Addr × Obj)} {σ : L2.St} {H : Hp} {s : Shared} {Q : VK} {us : List Value} {vs : List V} (F : FnG X.prog X.w X.K X.mg X.base k f fd ps sp) (hg0 : X.A.guards = some []) (hr : Room k X.A) (hb : Binds X.K fd ps [])
    (I : Inv X pins σ H s) (r : Vals vs us) (hl : vs.length = ps.length) (h : sp vs H Q (fun _ _ _ => False)) : wpAny (model X.prog X.w) X.A (call (.ref f) us) (EP X pins σ Q) X.xe s := by
  have b := hb s us I.kIn (by rw [List.append_nil, ← r.length]; exact hl)
  rw [List.append_nil] at b
  refine wpAny_call (codeAny_mono (F.run X.A X.stack s H ⟨us, []⟩ us vs Q _ hg0 hr I.env0 b r h) fun r s' hq => ?_)
  cases r with
  | error e => exact (show False from hq).elim
  | ok fl =>
    cases fl with
    | ret u => exact I.after hq
    | next => exact False.elim hq
    | brk => exact False.elim hq
    | cont => exact False.elim hq
def tCallG (n : Nat) (sp : Sp) (t : TA) : TE := fun σ H Q => t σ H fun vs H1 => vs.length = n ∧ sp vs H1 Q fun _ _ _ => False
theorem pe_callG (F : FnG X.prog X.w X.K X.mg X.base k f fd ps sp) (hg0 : X.A.guards = some []) (hr : Room k X.A) (hg : Gl X x) (hm : X.mg x = some (.ref f)) (hk : PySem.W.keepIn X.K (.ref f) = true) (hb : Binds X.K fd ps [])
    (ha : PA X (e :: es) t) (hdb : (x == ("__debug__" : Str)) = false := by decide) (he : starEach (e :: es) X.env = (false, eval e X.env) :: starEach es X.env := by rfl) (hpl : (backTo pos (starEach es X.env)).any (·.1) = false := by rfl) :
    PE X (.Call (.Name x q) (e :: es) [] pos) (tCallG ps.length sp t) := by
  refine ⟨fun pins s σ H Q I h => ?_⟩
  refine wpAny_Call_Name_kw (ld_glob I hg hm ?_ hdb)
  exact PySem.W.callWith_K (h₀ := X.base) I.ok.mod.kin hk (thn (ha.run pos pins s σ H _ I h) fun us s1 ⟨vs, H1, I1, r, q0, q1⟩ => ⟨I1.kIn, run_fnG F hg0 hr hb I1 r q0 q1⟩) he hpl
end
section
variable {X : Cx} {Wo : WO} {M : Md X.KK Wo} {ρ : List B} {e : Expr} {es : List Expr} {af : W (List B)} {j k n : Nat} {pos p : Pos} {x : Str} {h : List B → W B}
/-- f(e, ..), nothing being shown -/
theorem rd_callG (E : Ev X j) (hg0 : X.A.guards = some []) (D : DefG X.prog X.w X.K Wo X.mg X.base k x n (Sm h)) (ha : RA M (e :: es) ρ af) (hk : k ≤ j := by decide) (hg : Gl X x := by rfl)
    (h2 : (x == ("__debug__" : Str)) = false := by decide) (h3 : starEach (e :: es) X.env = (false, eval e X.env) :: starEach es X.env := by rfl)
    (h4 : (backTo pos (starEach es X.env)).any (·.1) = false := by rfl) : RD M (.Call (.Name x p) (e :: es) [] pos) ρ (bnd (callN n h af) asD) := ⟨fun t P z => by
  obtain ⟨fa, fd, ps, F, hn, hm, kp, hb⟩ := D.ex
  refine jd_of (pe_callG F hg0 (E.room.mono hk) hg hm kp hb paT h2 h3 h4) fun σ G H S Q q => (ha.run t _ z) σ G H S _ fun G1 H1 vs bs t1 s1 a1 ⟨hl, sp⟩ => ?_
  refine ⟨by rw [a1.length, hl, hn], M, G1, bs, t1, _, (S.step s1).ok, a1, hl, sp, fun G2 H2 v y t2 s2 d2 py => q G2 H2 v y t2 (s1.trans s2) d2 py, fun G2 H2 l ws xs t2 s2 n g e a py =>
    q (upd G2 l (.lst ws)) H2 (.ref l) (.list xs) t2 (s1.trans (s2.freeze n g e)) (.lst upd_same (DeAll.up (fun b u z => by
      rw [upd_ne (ne_of_none z g)]
      exact z) xs ws a)) py⟩⟩
end
end Dx
end
section
set_option maxRecDepth 100000
set_option maxHeartbeats 4000000
namespace Dx
open PySem PySem.Spec PyProof.Rows L2 Dl Dw Dz Dy
/-- how one keyword binds behind self -/
def KB1 (K : PySem.W.Frag) (fd : FuncData) (ps : List Str) (nm : Str) : Prop := KBn K fd ps 1 [nm] (fun us ws => us ++ ws) (fun vs zs => vs ++ zs)
theorem KB1.of {K : PySem.W.Frag} {fd : FuncData} {ps : List Str} {nm : Str} (h : ∀ (s : Shared) (u w : Value), BindsTo s fd ⟨[u], [(nm, w)]⟩ (ps.zip [u, w])) : KB1 K fd ps nm := ⟨fun s us ws _ l1 l2 => match us, ws, l1, l2 with | [u], [w], _, _ => h s u w, fun {vs us zs ws} r1 r2 => by
  induction r1 with
  | nil => exact r2
  | cons a r ih => exact .cons a ih⟩
structure IDefXK (P : Program) (w : World) (K : PySem.W.Frag) (Wo : WO) (mg : Str → Option Value) (base : Heap) (k : Nat) (x : Str) (C : Addr) (nm : Str) (S : XW → List B → Rs → (List (PyData × PyData) → Rs → Prop) → Prop) : Prop where
  ex : ∃ (f : Addr) (fd : FuncData) (ps : List Str), FnOk P w K mg base (L2.CX P w) k f fd ps (spXI (kkOf P w K) Wo C 1 S) ∧ Mk K C f ∧ mg x = some (.ref C) ∧ KB1 K fd ps nm
section
variable {X : Cx} {Wo : WO} {M : Md X.KK Wo} {ρ : List B} {e : Expr} {f : W PyData} {kk k : Nat} {pos p1 kpos : Pos} {C : Addr} {nm x : Str} {Ex : XW}
/-- C(nm = e), its __init__ may raise -/
theorem rd_makeXK {i : XW → List B → W (List (PyData × PyData))} (T : TkX X M Ex) (E : Ev X kk) (D : IDefXK X.prog X.w X.K Wo X.mg X.base k x C nm i) (ha : RD M e ρ f) (hk : k + 1 ≤ kk := by decide) (hg : Gl X x := by rfl)
    (h2 : (x == ("__debug__" : Str)) = false := by decide) (hall : (backToKw pos (keywordEach [⟨some nm, e, kpos⟩] X.env)).all (·.1.isSome) = true := by rfl) (hks : (backToKw pos (keywordEach [⟨some nm, e, kpos⟩] X.env)).filterMap (·.1) = [nm] := by rfl)
    (hpl : ((backTo pos (starEach [] X.env)).any (·.1) || (backToKw pos (keywordEach [⟨some nm, e, kpos⟩] X.env)).any (·.1.isNone)) = false := by rfl) : RD M (.Call (.Name x p1) [] [⟨some nm, e, kpos⟩] pos) ρ (bnd f fun y => mkW C (i Ex) [.d y]) := ⟨fun t P z => by
  obtain ⟨fa, fd, ps, F, mk, hm, bd⟩ := D.ex
  refine jd_of (pe_makeK0 mk F (E.room.mono hk) hg hm bd T.pass (pk_cons peT pk_nil) hall hks h2 hpl) fun σ G H S Q q => (ha.run t _ z) σ G H S _ fun G1 H1 v y t1 s1 d1 hs => ?_
  refine ⟨rfl, rfl, fun x2 dx hy hdx ne => ?_⟩
  refine ⟨M, G1, H1, x2, dx, [v], [.d y], t1, _, Ex, rfl, (S.step s1).ok, hy, hdx, ne, rfl, .cons (.d d1) .nil, rfl, hs, fun G2 H2 dx2 fs ds t2 s2 gy hi hf p => ⟨rfl, ?_⟩, fun cls d H' z => EK.step (S.step s1).st z⟩
  have sz := s2.freeze hy gy hi
  exact q _ H2 (.ref x2) (objD C ds) t2 (s1.trans sz) (.obj upd_same (DeF.up0 (fun b u z => by
    rw [upd_ne (ne_of_none z gy)]
    exact z) hf)) p⟩
end
end Dx
end
section
set_option maxRecDepth 100000
set_option maxHeartbeats 4000000
namespace Dx
open PySem PySem.Spec PyProof.Rows L2 Dl Dw Dz Dy
/-! ### sorted(xs) of a list of different tuples of ints -/
def rSortL (K : KK) : List V → Hp → VK → Prop := fun vs H Q => ∃ (l : Addr) (ks : List (Addr × List Int)), vs = [V.ref l] ∧ SqL K H l (ks.map fun p => V.ref p.1) ∧ (∀ p ∈ ks, SqT K H p.1 (p.2.map V.int) ∧ p.2 ≠ []) ∧ (ks.map (·.2)).Nodup ∧ ks.length ≤ 1000 ∧
  ∀ (L2 : List (Addr × List Int)) (p : Addr), (∀ q ∈ L2, q ∈ ks) → Asc (L2.map (·.2)) → (∀ x, x ∈ L2.map (·.2) ↔ x ∈ ks.map (·.2)) → H p = none → Q (.ref p) (upd H p (.lst (L2.map fun q => V.ref q.1)))
section
variable {X : Cx}
theorem cr_sortL : CallR X (.builtin "sorted") (rSortL X.KK) := by
  intro pins s σ H vs us Q I r h
  obtain ⟨l, ks, rfl, hl, hk, nd, few, q⟩ := h
  rw [Vals.ref1 r]
  obtain ⟨its, rv, pl, hz⟩ := I.list hl
  have ei : its = ks.map fun p => Value.ref p.1 := refs_of_vals rv
  subst ei
  have hI : ∀ p ∈ ks, IsInts s.heap (.ref p.1) p.2 := fun p hp => isT_ints (I.isT (hk p hp).1)
  let k : Value → List Int := fun v => open Classical in if h : ∃ ns, IsInts s.heap v ns then h.choose else []
  have hkk : ∀ p ∈ ks, k (.ref p.1) = p.2 := fun p hp => by
    have ex : ∃ ns, IsInts s.heap (.ref p.1) ns := ⟨_, hI p hp⟩
    show (open Classical in if h : ∃ ns, IsInts s.heap (.ref p.1) ns then h.choose else []) = _
    rw [dif_pos ex]
    exact ex.choose_spec.uniq (hI p hp)
  have fit : (ks.map fun p => Value.ref p.1).length ≤ sizeLine := by rw [List.length_map, sizeLine_eq]; omega
  refine SrtO.sorted_ord (swo_lexI k) pl.isList fit (fun h2 h1 a at1 keep => ?_) fun out srt stb => ?_
  · refine ints_sortableO (s := { s with heap := h1 }) (by omega) (fun v hv => ?_) fun o e => ?_
    · obtain ⟨p, hp, rfl⟩ := List.mem_map.mp hv
      rw [hkk p hp]
      exact ⟨(hI p hp).keeps fun b o e _ => (keep b o e).2, (hk p hp).2⟩
    · have e' := e.symm.trans at1
      cases e'
      intro c
      exact absurd (Value.type.inj c) (by decide)
  · have perm := stb.perm
    obtain ⟨L2, rfl, sub, len⟩ := perm_map_out _ perm
    obtain ⟨ep, he⟩ := PyProof.Rows.sortedAll_at s.heap (ks.map fun p => Value.ref p.1) (L2.map fun q => Value.ref q.1).toArray
    have em : (L2.map fun q => Value.ref q.1).map k = L2.map (·.2) := by
      rw [List.map_map]
      exact List.map_congr_left fun q hq => hkk q (sub q hq)
    have em2 : (ks.map fun q => Value.ref q.1).map k = ks.map (·.2) := by
      rw [List.map_map]
      exact List.map_congr_left fun q hq => hkk q hq
    have pm2 : (L2.map (·.2)).Perm (ks.map (·.2)) := by
      have := perm.map k
      rwa [em, em2] at this
    have nd2 : (L2.map (·.2)).Nodup := pm2.nodup_iff.mpr nd
    have asc : Asc (L2.map (·.2)) := by
      have h1 : ((L2.map fun q => Value.ref q.1).map k).Pairwise fun a b => lexI b a = false := List.pairwise_map.mpr srt
      rw [em] at h1
      refine (h1.and nd2).imp fun {a b} h => ?_
      cases e : lexI a b with
      | true => rfl
      | false => exact absurd (lexI_tot _ _ e h.1) h.2
    exact ⟨.ref _, upd H (s.heap.objs.size + 1) (.lst (L2.map fun q => V.ref q.1)), I.laid (t' := s.toks) (fun _ _ => PyProof.Rows.sortedAll_old) (Nat.le_succ _) ⟨by rw [List.length_map, sizeLine_eq]; omega, _, ep, vals_of_refs L2, he⟩, rfl, q L2 _ sub asc (fun x => pm2.mem_iff) (I.hok.fresh (Nat.le_succ _))⟩
end
def srtW (f : W PyData) : W (List PyData) := bnd f fun x => match x with
  | .list xs => match intRows xs with
    | some nss => need (nss.length ≤ 1000 ∧ nss.Nodup ∧ ∀ ns ∈ nss, ns ≠ []) (Dw.ret ((sdd nss).map iRow))
    | none => bad
  | _ => bad
section
variable {X : Cx} {Wo : WO} {M : Md X.KK Wo} {ρ : List B} {a b e : Expr} {f g : W PyData} {kk : Nat} {pos pos2 p1 p2 : Pos}
theorem rl_sortL (E : Ev X kk) (ha : RD M e ρ f) (hg1 : Gl X "sorted" := by rfl) (h3 : starEach [e] X.env = (false, eval e X.env) :: starEach [] X.env := by rfl) : RL M (.Call (.Name "sorted" p1) [e] [] pos) ρ (srtW f) := ⟨fun t P z =>
  jl_of (pe_callB cr_sortL hg1 E.bu.sorted boot_sorted' (pa_cons peT pa_nil h3) (by decide) (by decide) h3 rfl) fun σ G H S Q q =>
    (ha.run t _ z) σ G H S _ fun G1 H1 v x t1 s1 d1 z1 => by
      cases x <;> first | exact z1.elim | skip
      rename_i xs
      have z2 : (match intRows xs with | some nss => need (nss.length ≤ 1000 ∧ nss.Nodup ∧ ∀ ns ∈ nss, ns ≠ []) (Dw.ret ((sdd nss).map iRow)) | none => bad) t1 P := z1
      cases en : intRows xs with
      | none => rw [en] at z2; exact z2.elim
      | some nss =>
      rw [en] at z2
      obtain rfl := intRows_some en
      obtain ⟨⟨few, nd, ne⟩, p⟩ := z2
      obtain ⟨l, ws, rfl, st, da⟩ := d1.lstE
      obtain ⟨ks, rfl, e2, e3⟩ := rows_of da
      have k1 := (S.step s1).ok
      have hlen : ks.length = nss.length := by rw [← e2, List.length_map]
      refine ⟨l, ks, rfl, .inl (.inl (k1.sub _ _ st)), fun p hp => ⟨sqt_up k1.sub (e3 p hp), ne _ (by rw [← e2]; exact List.mem_map.mpr ⟨p, hp, rfl⟩)⟩, by rw [e2]; exact nd, by omega, fun L2 p2 sub2 asc mem hp2 => ?_⟩
      have s3 := k1.layO (o := .lst (L2.map fun q => V.ref q.1)) hp2
      have eq : L2.map (·.2) = sdd nss := asc_uniq asc (asc_sdd nss) fun x => by
        rw [mem x, mem_sdd, e2]
      have p' : P ((L2.map (·.2)).map fun ns => .tuple (ns.map PyData.int)) t1 := by
        rw [eq]
        exact p
      exact q G1 _ p2 _ _ t1 (s1.trans s3) (fresh_of s1 hp2) (none_of k1 hp2) upd_same (rows_back L2 fun r hr => e3 r (sub2 r hr)) p'⟩
end
/-! ### dicts of keys with True -/
mutual
theorem data_inj : ∀ (a b : NestedKey), a.data = b.data → a = b
  | .none, .none, _ => rfl
  | .num i, .num j, h => by rw [NestedKey.data, NestedKey.data] at h; injection h with h; rw [h]
  | .text i, .text j, h => by rw [NestedKey.data, NestedKey.data] at h; injection h with h; rw [h]
  | .tup a, .tup b, h => by rw [NestedKey.data, NestedKey.data] at h; injection h with h; rw [datas_inj a b h]
  | .none, .num _, h | .none, .text _, h | .none, .tup _, h => by simp [NestedKey.data] at h
  | .num _, .none, h | .num _, .text _, h | .num _, .tup _, h => by simp [NestedKey.data] at h
  | .text _, .none, h | .text _, .num _, h | .text _, .tup _, h => by simp [NestedKey.data] at h
  | .tup _, .none, h | .tup _, .num _, h | .tup _, .text _, h => by simp [NestedKey.data] at h
theorem datas_inj : ∀ (a b : List NestedKey), NestedKey.datas a = NestedKey.datas b → a = b
  | [], [], _ => rfl
  | a :: as, b :: bs, h => by
    rw [NestedKey.datas, NestedKey.datas] at h
    injection h with h1 h2
    rw [data_inj a b h1, datas_inj as bs h2]
  | [], _ :: _, h | _ :: _, [], h => by simp [NestedKey.datas] at h
end
theorem De.dctE {K : KK} {G : Hp} {v : V} {ks : List PyData} (h : De K G v (dctD ks)) : ∃ (a : Addr) (L : List (Addr × NestedKey)), v = .ref a ∧ G a = some (DctO K.P K.w a L) ∧ (∀ p ∈ L, De K G (.ref p.1) p.2.data) ∧ (L.map fun p => p.2.data) = ks := by
  generalize e : dctD ks = d at h
  cases h with
  | dctO ha hk =>
    refine ⟨_, _, rfl, ha, hk, ?_⟩
    unfold dctD at e
    injection e with e
    injection e with e _
    injection e with _ e
    injection e with e
    exact e.symm
  | obj ha hf =>
    unfold dctD objD at e
    injection e with e
    injection e with e _
    injection e with e _
    cases e
  | exc ha hd hf =>
    unfold dctD excD at e
    injection e with e
    injection e with e _
    injection e with e _
    cases e
  | setO ha hk =>
    unfold dctD setD at e
    injection e with e
    injection e with e _
    injection e with e _
    cases e
  | _ => cases e
section
variable {X : Cx} {pins : List (Addr × Obj)} {σ : L2.St} {H : Hp} {s : Shared}
mutual
theorem nested_of (I : Inv X pins σ H s) : ∀ (k : NestedKey) (v : V) (u : Value), De X.KK H v k.data → RelV v u → NestedIs s.heap k u
  | .none, v, u, d, r => by
    rw [NestedKey.data] at d
    obtain rfl := d.nonE
    obtain rfl : u = .none := r
    exact .none
  | .num i, v, u, d, r => by
    rw [NestedKey.data] at d
    obtain rfl := d.intE
    obtain ⟨t, rfl⟩ := r
    exact .int i t
  | .text x, v, u, d, r => by
    rw [NestedKey.data] at d
    obtain rfl := d.strE
    obtain ⟨t, rfl⟩ := r
    exact .text x t
  | .tup ks, v, u, d, r => by
    rw [NestedKey.data] at d
    obtain ⟨a, vs, rfl, st, da⟩ := d.tupE
    obtain rfl : u = .ref a := r
    obtain ⟨its, rv, ⟨o, ho, hc, n, hd⟩, _⟩ := I.tuple st
    exact .tup ho hc hd (by simpa using nested_all I ks vs its da rv)
theorem nested_all (I : Inv X pins σ H s) : ∀ (ks : List NestedKey) (vs : List V) (us : List Value), DeAll X.KK H vs (NestedKey.datas ks) → Vals vs us → NestedAll s.heap ks us
  | [], vs, us, d, r => by
    rw [NestedKey.datas] at d
    cases d
    cases r
    exact .nil
  | k :: ks, vs, us, d, r => by
    rw [NestedKey.datas] at d
    cases d with
    | cons d1 d2 =>
      cases r with
      | cons r1 r2 => exact .cons (nested_of I k _ _ d1 r1) (nested_all I ks _ _ d2 r2)
end
end
theorem atKey_mem {K : Type} [DecidableEq K] {xs : List (K × Addr × Value)} {k : K} : (atKey xs k).isSome = decide (k ∈ xs.map (·.1)) := by
  induction xs with
  | nil => rfl
  | cons x xs ih =>
    by_cases h : x.1 = k
    · simp [atKey, h]
    · have h2 : ¬ k = x.1 := fun e => h e.symm
      have e1 : atKey (x :: xs) k = atKey xs k := by simp [atKey, List.find?_cons, h]
      rw [e1, ih, List.map_cons, decide_eq_decide, List.mem_cons]
      exact ⟨.inr, fun z => z.elim (fun y => absurd y h2) id⟩
section
variable {X : Cx}
def rInK (K : KK) (neg : Bool) : V → V → Hp → VK → Prop := fun x y H Q => ∃ (c a : Addr) (k : NestedKey) (L : List (Addr × NestedKey)), x = V.ref c ∧ y = V.ref a ∧ De K H (.ref c) k.data ∧ k.depth ≤ 8 ∧ H a = some (DctO K.P K.w a L) ∧ (∀ p ∈ L, De K H (.ref p.1) p.2.data ∧ p.2.depth ≤ 8) ∧
  Q (.bl (if neg then !decide (k ∈ L.map (·.2)) else decide (k ∈ L.map (·.2)))) H
theorem dct_at {pins : List (Addr × Obj)} {σ : L2.St} {H : Hp} {s : Shared} (I : Inv X pins σ H s) {a : Addr} {L : List (Addr × NestedKey)} (ha : H a = some (DctO X.prog X.w a L)) (hk : ∀ p ∈ L, De X.KK H (.ref p.1) p.2.data ∧ p.2.depth ≤ 8) :
    (a == sysModules) = false ∧ s.heap.DictOfH (nestedKind X.prog X.w) a (L.map fun p => (p.2, p.1, Value.bool true)) := by
  have R0 : DctP X.prog X.w s.heap a L := (I.hok a _ ha).1
  obtain ⟨⟨o, es, ep, h1, h2, h3, h4⟩, nd, sm⟩ := R0
  refine ⟨sm, o, es, ep, h1, h2, h3, h4, fun x hx => ?_, ?_⟩
  · obtain ⟨p, hp, rfl⟩ := List.mem_map.mp hx
    exact ⟨nested_of I _ _ _ (hk p hp).1 rfl, (hk p hp).2⟩
  · rw [List.map_map]
    exact nd
theorem keys_of (L : List (Addr × NestedKey)) : (L.map fun p => (p.2, p.1, Value.bool true)).map (·.1) = L.map (·.2) := by rw [List.map_map]; rfl
theorem or_kin (room : X.A.units + 16 < cLine) : OpR X (compareOp .In) (rInK X.KK false) := by
  intro pins s σ H x y v u Q I rx ry h
  obtain ⟨c, a, k, L, rfl, rfl, hc, hd, ha, hk, q⟩ := h
  cases rx
  cases ry
  obtain ⟨sm, D⟩ := dct_at I ha hk
  refine wpAny_in_heap (knd := nestedKind X.prog X.w) (by show X.A.in1.units + 8 < cLine; simp [Around.in1]; omega) ⟨nested_of I k _ _ hc rfl, hd⟩ sm D ?_
  rw [atKey_mem, keys_of]
  exact ⟨.bl (decide (k ∈ L.map fun p : Addr × NestedKey => p.2)), H, I.tok _, rfl, q⟩
theorem or_knin (room : X.A.units + 16 < cLine) : OpR X (compareOp .NotIn) (rInK X.KK true) := by
  intro pins s σ H x y v u Q I rx ry h
  obtain ⟨c, a, k, L, rfl, rfl, hc, hd, ha, hk, q⟩ := h
  cases rx
  cases ry
  obtain ⟨sm, D⟩ := dct_at I ha hk
  show wpAny _ _ (do return Value.bool (!(← contains (.ref a) (.ref c)))) _ _ s
  refine wpAny_bind (wpAny_contains_heap (knd := nestedKind X.prog X.w) (by show X.A.in1.units + 8 < cLine; simp [Around.in1]; omega) ⟨nested_of I k _ _ hc rfl, hd⟩ sm D (wpAny_pure ?_))
  rw [atKey_mem, keys_of]
  exact ⟨.bl (!decide (k ∈ L.map fun p : Addr × NestedKey => p.2)), H, I.tok _, rfl, q⟩
theorem stored_nodup {K : Type} [DecidableEq K] : ∀ (ps xs : List (K × Addr × Value)), (ps.map (·.1)).Nodup → (∀ p ∈ ps, p.1 ∉ xs.map (·.1)) → storedAllH xs ps = xs ++ ps
  | [], xs, _, _ => by simp [storedAllH]
  | p :: ps, xs, nd, h => by
    rw [List.map_cons, List.nodup_cons] at nd
    have e : atKey xs p.1 = none := by
      have := atKey_mem (xs := xs) (k := p.1)
      rw [decide_eq_false (h p (List.mem_cons_self ..))] at this
      cases e : atKey xs p.1 with
      | none => rfl
      | some z => rw [e] at this; cases this
    show storedAllH (storedH xs p.1 p.2.1 p.2.2) ps = _
    rw [storedH_new e, stored_nodup ps _ nd.2 fun q hq z => ?_]
    · simp
    · rw [List.map_append] at z
      rcases List.mem_append.mp z with z | z
      · exact h q (List.mem_cons_of_mem _ hq) z
      · have : q.1 = p.1 := by simpa using z
        exact nd.1 (this ▸ List.mem_map.mpr ⟨q, hq, rfl⟩)
/-- dict(pairs): where a pair stands, where its key stands, the key -/
abbrev PT := Addr × Addr × NestedKey
def rDictK (K : KK) : List V → Hp → VK → Prop := fun xs H Q => ∃ (l : Addr) (ts : List PT), xs = [V.ref l] ∧ SqL K H l (ts.map fun p => V.ref p.1) ∧ (∀ p ∈ ts, SqT K H p.1 [V.ref p.2.1, V.bl true] ∧ De K H (.ref p.2.1) p.2.2.data ∧ p.2.2.depth ≤ 8) ∧ (ts.map (·.2.2)).Nodup ∧ ts.length ≤ 1000 ∧
  ∀ a, H a = none → Q (.ref a) (upd H a (DctO K.P K.w a (ts.map fun p => (p.2.1, p.2.2))))
theorem vals_refs {α : Type} (f : α → Addr) : ∀ {l : List α} {us : List Value}, Vals (l.map fun p => V.ref (f p)) us → us = l.map fun p => Value.ref (f p)
  | [], _, .nil => rfl
  | p :: l, _, .cons r t => by
    cases r
    rw [vals_refs f t] <;> rfl
theorem dctO_new {P : Program} {w : World} {H : Hp} {h : Heap} {a : Addr} {L : List (Addr × NestedKey)} (R : DctP P w h a L) : ObjOk P w H h a (DctO P w a L) := by
  have ⟨⟨o, es, ep, ho, r⟩, q⟩ := R
  refine ⟨R, ⟨o, ho⟩, fun h1 h2 p k => ?_⟩
  have p : DctP P w h1 a L := p
  have ⟨⟨o', es', ep', ho', r'⟩, q'⟩ := p
  exact ⟨⟨o', es', ep', k o' ho', r'⟩, q'⟩
theorem cr_dictK (hc : X.calm = true) (room : X.A.units + 16 < cLine) : CallR X (.type "dict") (rDictK X.KK) := by
  intro pins s σ H xs us Q I r h
  obtain ⟨l, ts, rfl, hl, hk, nd, few, q⟩ := h
  rw [Vals.ref1 r]
  obtain ⟨its, rv, pl, hz⟩ := I.list hl
  obtain rfl := vals_refs (fun p : PT => p.1) rv
  let Ts : Nat → Addr := fun i => (ts.map (·.1)).getD i 0
  let ps : List (Value × Value) := ts.map fun p => (Value.ref p.2.1, Value.bool true)
  let psH : List (NestedKey × Addr × Value) := ts.map fun p => (p.2.2, p.2.1, Value.bool true)
  have big := I.big
  have items : PairItems s.heap (ts.map fun p => Value.ref p.1).toArray Ts ps := by
    refine ⟨by simp [ps], fun j k v hj => ?_⟩
    have hj' : (ts[j]?).map (fun p => (Value.ref p.2.1, Value.bool true)) = some (k, v) := by rw [← List.getElem?_map]; exact hj
    obtain ⟨p, hp, e⟩ := Option.map_eq_some_iff.mp hj'
    cases e
    have hT : Ts j = p.1 := by simp [Ts, List.getD, List.getElem?_map, hp]
    refine ⟨by rw [hT]; simp [List.getElem?_map, hp], ?_⟩
    rw [hT]
    have hm := List.mem_of_getElem? hp
    obtain ⟨its2, rv2, ⟨o, ho, hcl, n, hd⟩, _⟩ := I.tuple (hk p hm).1
    cases rv2 with
    | cons r1 t1 =>
      cases t1 with
      | cons r2 t2 =>
        cases t2
        cases r1
        cases r2
        exact .inl ⟨o, ho, hcl, n, hd⟩
  have rel : PairsHaveH (nestedKind X.prog X.w) ps.length (PairRel ps) psH := by
    refine ⟨by simp [ps, psH], fun i key v hi => ?_⟩
    have hi' : (ts[i]?).map (fun p => (Value.ref p.2.1, Value.bool true)) = some (key, v) := by rw [← List.getElem?_map]; exact hi
    obtain ⟨p, hp, e⟩ := Option.map_eq_some_iff.mp hi'
    cases e
    exact ⟨p.2.2, p.2.1, by simp [psH, List.getElem?_map, hp], rfl⟩
  have pls : PlainSeq "list" s.heap l (ts.map fun p : PT => Value.ref p.1).toArray := by
    obtain ⟨o, n, e, c1, c2, c3⟩ := pl
    first | exact ⟨o, n, e, c1, c2, c3⟩ | exact ⟨o, n, e, c2, c1, c3⟩
  refine call_dict_pairsH (knd := nestedKind X.prog X.w) (PairArg.list (prog := X.prog) (w := X.w) l (ts.map fun p : PT => Value.ref p.1).toArray Ts ps) (I.ok.hd hc) (by show X.A.in1.in1.units + 8 < cLine; simp [Around.in1]; omega) ⟨pls, items⟩ rel (fun h' k x hx => ?_) (by simp [ps, sizeLine_eq]; omega) fun h' tk D k => ?_
  · obtain ⟨p, hp, rfl⟩ := List.mem_map.mp hx
    refine nestedKind_stays.stays (h := s.heap) (fun b o _ _ e _ => k b o (Nat.ne_of_lt (Heap.lt_size e)) (by simp) e) ⟨nested_of I _ _ _ (hk p hp).2.1 rfl, (hk p hp).2.2⟩
  · have en : storedAllH [] psH = psH := by
      rw [stored_nodup psH [] (by simpa [psH, List.map_map, Function.comp_def] using nd) fun p _ z => by cases z]
      rfl
    rw [en] at D
    obtain ⟨o, es, ep, h1, h2, h3, h4, _, _⟩ := D
    have fresh : H s.heap.objs.size = none := I.hok.fresh (Nat.le_refl _)
    refine ⟨.ref s.heap.objs.size, upd H s.heap.objs.size (DctO X.prog X.w s.heap.objs.size (ts.map fun p => (p.2.1, p.2.2))), I.laid (t' := tk) (fun b u e => k b u (by simp) e) (Nat.le_refl _) (dctO_new ⟨⟨o, es, ep, h1, h2, h3, ?_⟩, ?_, ?_⟩), rfl, q _ fresh⟩
    · rw [h4, List.map_map]
      simp [psH]
    · rw [List.map_map]
      exact nd
    · exact beq_eq_false_iff_ne.mpr (Nat.ne_of_gt big)
end
/-- a list of pairs, in the heap -/
theorem pairs_of {K : KK} {G : Hp} : ∀ {ws : List V} {ks : List NestedKey}, (∀ k ∈ ks, ∃ m, k = .tup m) → DeAll K G ws (ks.map fun k => .tuple [k.data, .bool true]) → ∃ ts : List PT, ws = ts.map (fun p => V.ref p.1) ∧ ts.map (·.2.2) = ks ∧ ∀ p ∈ ts, SqT K G p.1 [V.ref p.2.1, V.bl true] ∧ De K G (.ref p.2.1) p.2.2.data
  | ws, [], _, h => by
    cases h
    exact ⟨[], rfl, rfl, fun p z => by cases z⟩
  | ws, k :: ks, hk, h => by
    rw [List.map_cons] at h
    cases h with
    | cons d r =>
      obtain ⟨a, vs, rfl, st, da⟩ := d.tupE
      obtain ⟨ts, e1, e2, e3⟩ := pairs_of (fun z hz => hk z (List.mem_cons_of_mem _ hz)) r
      obtain ⟨m, rfl⟩ := hk k (List.mem_cons_self ..)
      cases da with
      | cons d1 r1 =>
        cases r1 with
        | cons d2 r2 =>
          cases r2
          obtain rfl := d2.blE
          rw [NestedKey.data] at d1
          obtain ⟨b, us, rfl, sb, db⟩ := d1.tupE
          refine ⟨(a, b, .tup m) :: ts, by rw [e1]; rfl, by rw [List.map_cons, e2], fun p hp => ?_⟩
          rcases List.mem_cons.mp hp with rfl | hp
          · exact ⟨st, by rw [NestedKey.data]; exact d1⟩
          · exact e3 p hp
/-! ### the mirrors' words -/
/-- dict(pairs) as data: the pairs' keys differ, each goes with True -/
def odctW (x : PyData) : W PyData := fun t P => ∃ ks : List NestedKey, x = .list (ks.map fun k => .tuple [k.data, .bool true]) ∧ ks.Nodup ∧ ks.length ≤ 1000 ∧ (∀ k ∈ ks, k.depth ≤ 8 ∧ ∃ m, k = .tup m) ∧ P (dctD (ks.map NestedKey.data)) t
/-- x in d -/
def oinD (neg : Bool) (x y : PyData) : W PyData := fun t P => ∃ (k : NestedKey) (ks : List NestedKey), x = k.data ∧ (∃ m, k = .tup m) ∧ k.depth ≤ 8 ∧ y = dctD (ks.map NestedKey.data) ∧ (∀ k ∈ ks, k.depth ≤ 8) ∧ P (.bool (if neg then !decide (k ∈ ks) else decide (k ∈ ks))) t
section
variable {X : Cx} {Wo : WO} {M : Md X.KK Wo} {ρ : List B} {a b e : Expr} {f g : W PyData} {kk : Nat} {pos pos2 p1 p2 : Pos}
theorem data_keys {L : List (Addr × NestedKey)} {ks : List NestedKey} (h : (L.map fun p => p.2.data) = ks.map NestedKey.data) : L.map (·.2) = ks := by
  induction ks generalizing L with
  | nil =>
    cases L with
    | nil => rfl
    | cons p L => simp at h
  | cons k ks ih =>
    cases L with
    | nil => simp at h
    | cons p L =>
      rw [List.map_cons, List.map_cons] at h
      injection h with h1 h2
      rw [List.map_cons, ih h2, data_inj _ _ h1]
theorem ob_inD {K : KK} {M : Md K Wo} {neg : Bool} : Ob M (rInK K neg) (oinD neg) := fun x y t P z => fun G H v w k hv hw Q q => by
  obtain ⟨nk, ks, rfl, ⟨m, rfl⟩, hd, rfl, h8, z⟩ := z
  rw [NestedKey.data] at hv
  obtain ⟨c, vs, rfl, hc, da⟩ := hv.tupE
  obtain ⟨b, L, rfl, hb, hk, e⟩ := De.dctE hw
  have e2 := data_keys e
  refine ⟨c, b, .tup m, L, rfl, rfl, ?_, hd, k.sub _ _ hb, fun p hp => ⟨De.up0 k.sub (hk p hp), h8 _ (by rw [← e2]; exact List.mem_map.mpr ⟨p, hp, rfl⟩)⟩, ?_⟩
  · rw [NestedKey.data]
    exact De.up0 k.sub hv
  · rw [e2]
    exact keep k q (.bl _) z
theorem Ev.u16 (E : Ev X kk) : X.A.units + 16 < cLine := by have := E.room.un; omega
theorem rd_inD (E : Ev X kk) (ha : RD M a ρ f) (hb : RD M b ρ g) (hm : behindInMarks .In b = false := by rfl) : RD M (.Compare a [.In] [b] pos) ρ (op2 (oinD false) f g) := rd_cmp (r := rInK X.KK false) (or_kin (Ev.u16 E)) hm ob_inD ha hb
theorem rd_ninD (E : Ev X kk) (ha : RD M a ρ f) (hb : RD M b ρ g) (hm : behindInMarks .NotIn b = false := by rfl) : RD M (.Compare a [.NotIn] [b] pos) ρ (op2 (oinD true) f g) := rd_cmp (r := rInK X.KK true) (or_knin (Ev.u16 E)) hm ob_inD ha hb
theorem rt_inD (E : Ev X kk) (ha : RD M a ρ f) (hb : RD M b ρ g) (hm : behindInMarks .In b = false := by rfl) : RT M (.Compare a [.In] [b] pos) ρ (bnd (op2 (oinD false) f g) asB) := rt_cmp (r := rInK X.KK false) (or_kin (Ev.u16 E)) hm ob_inD ha hb
theorem rt_ninD (E : Ev X kk) (ha : RD M a ρ f) (hb : RD M b ρ g) (hm : behindInMarks .NotIn b = false := by rfl) : RT M (.Compare a [.NotIn] [b] pos) ρ (bnd (op2 (oinD true) f g) asB) := rt_cmp (r := rInK X.KK true) (or_knin (Ev.u16 E)) hm ob_inD ha hb
theorem rd_dictP (E : Ev X kk) (ha : RD M e ρ f) (hg2 : Gl X "dict" := by rfl) (h3 : starEach [e] X.env = (false, eval e X.env) :: starEach [] X.env := by rfl) : RD M (.Call (.Name "dict" p2) [e] [] pos2) ρ (op1 odctW f) := ⟨fun t P z =>
  jd_of (pe_callTy (cr_dictK E.calm (Ev.u16 E)) hg2 E.bu.dict PyProof.Rows.boot_dict (pa_cons peT pa_nil h3) (by decide) (by decide) h3 rfl) fun σ G H S Q q =>
    (ha.run t _ z) σ G H S _ fun G1 H1 v x t1 s1 d1 ⟨ks, ex, nd, few, hk, z1⟩ => by
      subst ex
      have k1 := (S.step s1).ok
      obtain ⟨l, ws, rfl, st, da⟩ := d1.lstE
      obtain ⟨ts, rfl, e2, e3⟩ := pairs_of (fun k hk' => (hk k hk').2) da
      have hlen : ts.length = ks.length := by rw [← e2, List.length_map]
      have dep : ∀ p ∈ ts, p.2.2.depth ≤ 8 := fun p hp => (hk _ (by rw [← e2]; exact List.mem_map.mpr ⟨p, hp, rfl⟩)).1
      refine ⟨l, ts, rfl, .inl (.inl (k1.sub _ _ st)), fun p hp => ⟨sqt_up k1.sub (e3 p hp).1, De.up0 k1.sub (e3 p hp).2, dep p hp⟩, by rw [e2]; exact nd, by omega, fun a ha => ?_⟩
      have s2 := k1.lay (o := DctO X.prog X.w a (ts.map fun p => (p.2.1, p.2.2))) ha (fun _ z => by unfold DctO at z; cases z)
      have ed : dctD ((ts.map fun p : PT => (p.2.1, p.2.2)).map fun p => p.2.data) = dctD (ks.map NestedKey.data) := by
        rw [← e2, List.map_map, List.map_map]
        rfl
      refine q _ _ _ (dctD (ks.map NestedKey.data)) t1 (s1.trans s2) ?_ z1
      rw [← ed]
      refine .dctO upd_same fun p hp => ?_
      obtain ⟨p2, hp2, e4⟩ := List.mem_map.mp hp
      subst e4
      exact De.up0 s2.gg (e3 p2 hp2).2⟩
end
end Dx
end
section
set_option maxRecDepth 100000
set_option maxHeartbeats 4000000
/-! a tuple k times, k = 0 too -/
namespace Dx
open PySem PySem.Spec PyProof.Rows L2 Dl Dw Dz Dy
def rRep0 (K : KK) : R2 := fun x y H Q => ∃ l xs, x = .ref l ∧ y = .int 0 ∧ SqT K H l xs ∧ xs ≠ [] ∧ ∀ p, H p = none → Q (.ref p) (upd H p (.tup []))
theorem mul_zero' (l : Addr) (items : Array Value) (n : Nat) (dd : Option Addr) (sl : Array (Option Value)) (u : Tok) (c1 : (items.isEmpty || (0 : Int) == 1) = false) :
    Meets (Builtin.«tuple.__mul__» ⟨[.ref l, .int 0 u], []⟩) (fun _ R s => s.heap.get? l = some { cls := .type "tuple", dict := dd, data := .seq items n, slots := sl } ∧ R (.ok (.ret (Value.ref s.heap.objs.size))) { s with heap := s.heap.push { cls := Value.type "tuple", data := Data.seq #[] }, toks := s.toks }) :=
  .of_wp fun prog w A R s h => by
    obtain ⟨hp, g, d, tk, os⟩ := s
    obtain ⟨hl, h⟩ := h
    have f1 := AutoSeq1.idx_int
    wp_walk using wpAny_loadPart' hl
    repeat (first
      | (refine wpAny_ite_false (decide_eq_false (by rw [c1]; exact Bool.false_ne_true)) ?_; wp_walk using wpAny_loadPart' hl)
      | (refine wpAny_ite_true (decide_eq_true (by simp)) ?_; wp_walk using wpAny_loadPart' hl))
    exact ⟨_, rfl, h⟩
section
variable {X : Cx}
theorem op_rep0 : OpR X (binaryOp .Mult) (rRep0 X.KK) := by
  intro pins s σ H x y v u Q I rx ry h
  obtain ⟨l, xs, rfl, rfl, hT, hne, q⟩ := h
  cases rx
  obtain ⟨t, rfl⟩ := ry
  obtain ⟨its, r, ⟨⟨cls, dd, data, sl⟩, ho, hc, n, hd⟩, hs⟩ := I.tuple hT
  simp only at hc hd
  subst hc hd
  have hle : its.length = xs.length := r.length.symm
  have hn : its ≠ [] := fun e => hne (by
    rw [e] at hle
    exact List.eq_nil_of_length_eq_zero hle.symm)
  have c1 : (its.toArray.isEmpty || (0 : Int) == 1) = false := by
    cases its with
    | nil => exact absurd rfl hn
    | cons a b => rfl
  refine wpAny_binaryOp_repeat_ref (T := "tuple") (U := "int") (by decide) ⟨_, ho, rfl⟩ (fun z => typeIs_int z 0 t) noFill_tuple_mul F.fills_int_mul F.slot_int_rmul repeat_tuple F.slot_int_index.lookup
    (call_meets F.slot_int_rmul (typeIs_int s 0 t) F.entry_int_rmul (F.args_int_rmul_2 _ _) (int_rmul_tuple 0 t l its.toArray n dd sl)
      ⟨ho, rfl, ⟨_, ho, rfl⟩, call_meets F.slot_tuple_mul ⟨_, ho, rfl⟩ F.entry_tuple_mul (F.args_tuple_mul_2 _ _) (mul_zero' l its.toArray n dd sl t c1) ⟨ho, ?_⟩⟩)
  refine ⟨.ref s.heap.objs.size, _, I.laid (t' := s.toks) (o := .tup []) (fun b ob q => Heap.get?_push_of_some _ q) (Nat.le_refl _) ?_, rfl, q _ (I.hok.fresh (Nat.le_refl _))⟩
  exact ⟨by rw [sizeLine_eq]; simp, [], .nil, IsTup.new _ _⟩
end
def orepZ : PyData → PyData → W PyData
  | .tuple xs, .int k => need (xs ≠ [] ∧ 0 ≤ k ∧ k ≤ 1000 ∧ xs.length ≤ 1000) (Dw.ret (.tuple (List.replicate k.toNat xs).flatten))
  | _, _ => bad
section
variable {X : Cx} {Wo : WO} {M : Md X.KK Wo} {ρ : List B} {a b e : Expr} {f g : W PyData} {kk : Nat} {pos pos2 p1 p2 : Pos}
theorem bn_or {r q : R2} {x y : PyData} {t : Rs} {P : PyData → Rs → Prop} (h : Bn M r x y t P ∨ Bn M q x y t P) : Bn M (fun x y H Q => r x y H Q ∨ q x y H Q) x y t P := (Ob.or (o := fun x y t P => Bn M r x y t P ∨ Bn M q x y t P) fun x y t P z => z) x y t P h
theorem rd_repZ (ha : RD M a ρ f) (hb : RD M b ρ g) : RD M (.BinOp a .Mult b pos) ρ (op2 orepZ f g) := rd_bin (opr_or op_rep0 (opr_or op_rep1 op_repT)) (Ob.or fun x y t P z => by
  cases x <;> first | exact z.elim | skip
  cases y <;> first | exact z.elim | skip
  rename_i xs k
  obtain ⟨⟨hne, h0, h2, hz⟩, zP⟩ := z
  by_cases hk0 : k = 0
  · subst hk0
    refine .inl fun G H v w o hv hw Q q => ?_
    obtain ⟨a1, vs, rfl, st, da⟩ := hv.tupE
    refine ⟨a1, vs, rfl, hw.intE, sqt_up o.sub st, fun e => hne (List.eq_nil_of_length_eq_zero (by rw [← da.length, e]; rfl)), fun p hp => ?_⟩
    have s := o.lay (o := .tup []) hp
    exact q _ _ _ _ _ s (.tup (.inl (.inl upd_same)) .nil) zP
  · refine .inr (bn_or ?_)
    by_cases hk : k = 1
    · subst hk
      refine .inl fun G H v w o hv hw Q q => ?_
      obtain ⟨a1, vs, rfl, st, da⟩ := hv.tupE
      refine ⟨a1, vs, rfl, hw.intE, sqt_up o.sub st, fun e => hne (List.eq_nil_of_length_eq_zero (by rw [← da.length, e]; rfl)), ?_⟩
      have e1 : (List.replicate (1 : Int).toNat xs).flatten = xs := by simp
      rw [e1] at zP
      exact keep o q hv zP
    · refine .inr fun G H v w o hv hw Q q => ?_
      obtain ⟨a1, vs, rfl, st, da⟩ := hv.tupE
      refine ⟨a1, k, vs, rfl, hw.intE, sqt_up o.sub st, fun e => hne (List.eq_nil_of_length_eq_zero (by rw [← da.length, e]; rfl)), by omega, h2, by rw [da.length]; exact hz, fun p hp => ?_⟩
      have s := o.lay (o := .tup (List.replicate k.toNat vs).flatten) hp
      exact q _ _ _ _ _ s (.tup (.inl (.inl upd_same)) (DeAll.up s.gg _ _ (DeAll.flat da _))) zP) ha hb
end
end Dx
end
section
set_option maxRecDepth 100000
set_option maxHeartbeats 4000000
namespace K36
open PySem PySem.Spec PyProof.Rows L2 Dl Dw Dz Dy Dx
def topS (i : Nat) : Stmt := PySem.Challenge.pw_ownrights_k36_rests_told.main.body.getD i (.Pass ⟨0, 0, 0, 0⟩)
abbrev s__wall : Stmt := topS 0
theorem sc__wall : FnScope ["k"] ["k"] (defScope s__wall) := ⟨rfl, rfl, rfl, by decide +kernel, rfl, by decide +kernel, by decide +kernel⟩
abbrev s_added : Stmt := topS 2
theorem sc_added : FnScope ["one", "others", "column"] ["one", "others"] (defScope s_added) := ⟨rfl, rfl, rfl, by decide +kernel, rfl, by decide +kernel, by decide +kernel⟩
abbrev s_subtracted : Stmt := topS 3
theorem sc_subtracted : FnScope ["one", "other", "x", "y"] ["one", "other"] (defScope s_subtracted) := ⟨rfl, rfl, rfl, by decide +kernel, rfl, by decide +kernel, by decide +kernel⟩
abbrev s_is_integer : Stmt := topS 17
theorem sc_is_integer : FnScope ["thing"] ["thing"] (defScope s_is_integer) := ⟨rfl, rfl, rfl, by decide +kernel, rfl, by decide +kernel, by decide +kernel⟩
abbrev s_is_integers : Stmt := topS 18
theorem sc_is_integers : FnScope ["thing", "one"] ["thing"] (defScope s_is_integers) := ⟨rfl, rfl, rfl, by decide +kernel, rfl, by decide +kernel, by decide +kernel⟩
abbrev s_as_set : Stmt := topS 20
theorem sc_as_set : FnScope ["sums"] ["sums"] (defScope s_as_set) := ⟨rfl, rfl, rfl, by decide +kernel, rfl, by decide +kernel, by decide +kernel⟩
abbrev s_all_added : Stmt := topS 21
theorem sc_all_added : FnScope ["ones", "others", "one", "other"] ["ones", "others"] (defScope s_all_added) := ⟨rfl, rfl, rfl, by decide +kernel, rfl, by decide +kernel, by decide +kernel⟩
abbrev s_rest_of_sums : Stmt := topS 22
theorem sc_rest_of_sums : FnScope ["sums", "target", "held", "candidates", "one", "other"] ["sums", "target"] (defScope s_rest_of_sums) := ⟨rfl, rfl, rfl, by decide +kernel, rfl, by decide +kernel, by decide +kernel⟩
abbrev s__is_long_sum : Stmt := topS 24
theorem sc__is_long_sum : FnScope ["thing"] ["thing"] (defScope s__is_long_sum) := ⟨rfl, rfl, rfl, by decide +kernel, rfl, by decide +kernel, by decide +kernel⟩
abbrev s__are_long_sums : Stmt := topS 25
theorem sc__are_long_sums : FnScope ["thing", "one"] ["thing"] (defScope s__are_long_sums) := ⟨rfl, rfl, rfl, by decide +kernel, rfl, by decide +kernel, by decide +kernel⟩
abbrev s__law_source : Stmt := topS 28
theorem sc__law_source : FnScope ["_law_script"] ["_law_script"] (defScope s__law_source) := ⟨rfl, rfl, rfl, by decide +kernel, rfl, by decide +kernel, by decide +kernel⟩
abbrev s__law_draw : Stmt := topS 29
theorem sc__law_draw : FnScope ["_law_source_here", "_law_bound", "_law_turn", "_law_digit", "_law_at", "_law_cell", "_law_mixed"] ["_law_source_here", "_law_bound"] (defScope s__law_draw) := ⟨rfl, rfl, rfl, by decide +kernel, rfl, by decide +kernel, by decide +kernel⟩
abbrev s__law_plus : Stmt := topS 30
theorem sc__law_plus : FnScope ["_law_early", "_law_late", "_law_k"] ["_law_early", "_law_late"] (defScope s__law_plus) := ⟨rfl, rfl, rfl, by decide +kernel, rfl, by decide +kernel, by decide +kernel⟩
abbrev s__law_minus : Stmt := topS 31
theorem sc__law_minus : FnScope ["_law_early", "_law_late", "_law_k"] ["_law_early", "_law_late"] (defScope s__law_minus) := ⟨rfl, rfl, rfl, by decide +kernel, rfl, by decide +kernel, by decide +kernel⟩
abbrev s__law_left : Stmt := topS 32
theorem sc__law_left : FnScope ["_law_lot_here", "_law_goal", "_law_spot", "_law_found", "_law_spots", "_law_free", "_law_early"] ["_law_lot_here", "_law_goal"] (defScope s__law_left) := ⟨rfl, rfl, rfl, by decide +kernel, rfl, by decide +kernel, by decide +kernel⟩
abbrev s__law_value : Stmt := topS 33
theorem sc__law_value : FnScope ["_law_lot_here", "_law_goal", "_law_rest"] ["_law_lot_here", "_law_goal"] (defScope s__law_value) := ⟨rfl, rfl, rfl, by decide +kernel, rfl, by decide +kernel, by decide +kernel⟩
abbrev s__law_lot : Stmt := topS 34
theorem sc__law_lot : FnScope ["_law_source_here", "_law_many", "_law_most", "_law_found", "_law_lap", "_law_k"] ["_law_source_here", "_law_many", "_law_most"] (defScope s__law_lot) := ⟨rfl, rfl, rfl, by decide +kernel, rfl, by decide +kernel, by decide +kernel⟩
abbrev s__law_said : Stmt := topS 35
theorem sc__law_said : FnScope ["_law_ask", "_law_found", "_law_e", "_law_kinds"] ["_law_ask"] (defScope s__law_said) := ⟨rfl, rfl, rfl, by decide +kernel, rfl, by decide +kernel, by decide +kernel⟩
abbrev s__law_store_error : Stmt := topS 36
theorem sc__law_store_error : FnScope ["_law_e", "_law_sorts"] ["_law_e"] (defScope s__law_store_error) := ⟨rfl, rfl, rfl, by decide +kernel, rfl, by decide +kernel, by decide +kernel⟩
abbrev s__law_are_refused : Stmt := topS 37
theorem sc__law_are_refused : FnScope ["_law_lot_here", "_law_many", "_law_told", "_law_empty", "_law_wide"] ["_law_lot_here", "_law_many"] (defScope s__law_are_refused) := ⟨rfl, rfl, rfl, by decide +kernel, rfl, by decide +kernel, by decide +kernel⟩
abbrev s_S___init__ : Stmt := inClass (topS 26) 0
theorem sc_S___init__ : FnScope ["self", "sums", "at", "one"] ["self", "sums"] (defScope s_S___init__) := ⟨rfl, rfl, rfl, by decide +kernel, rfl, by decide +kernel, by decide +kernel⟩
abbrev s_S_form : Stmt := inClass (topS 26) 1
theorem sc_S_form : FnScope ["self"] ["self"] (defScope s_S_form) := ⟨rfl, rfl, rfl, by decide +kernel, rfl, by decide +kernel, by decide +kernel⟩
abbrev s_S___len__ : Stmt := inClass (topS 26) 2
theorem sc_S___len__ : FnScope ["self"] ["self"] (defScope s_S___len__) := ⟨rfl, rfl, rfl, by decide +kernel, rfl, by decide +kernel, by decide +kernel⟩
abbrev s_S_rest_in : Stmt := inClass (topS 26) 11
theorem sc_S_rest_in : FnScope ["self", "target"] ["self", "target"] (defScope s_S_rest_in) := ⟨rfl, rfl, rfl, by decide +kernel, rfl, by decide +kernel, by decide +kernel⟩
abbrev s_S_worth_in : Stmt := inClass (topS 26) 12
theorem sc_S_worth_in : FnScope ["self", "target", "rest"] ["self", "target"] (defScope s_S_worth_in) := ⟨rfl, rfl, rfl, by decide +kernel, rfl, by decide +kernel, by decide +kernel⟩
abbrev s_S__check_length : Stmt := inClass (topS 26) 13
theorem sc_S__check_length : FnScope ["self", "other"] ["self", "other"] (defScope s_S__check_length) := ⟨rfl, rfl, rfl, by decide +kernel, rfl, by decide +kernel, by decide +kernel⟩
abbrev s_law : Stmt := topS 38
theorem sc_law : FnScope ["_law_script", "_law_source_here", "_law_lap", "_law_many", "_law_lot_here", "_law_goal", "_law_turn", "_law_by", "_law_a", "_law_b", "_law_rest", "_law_due", "_law_told", "_law_spot"] ["_law_script"] (defScope s_law) := ⟨rfl, rfl, rfl, by decide +kernel, rfl, by decide +kernel, by decide +kernel⟩
abbrev s_E_InvalidSums : Stmt := inClass (topS 12) 0
theorem sc_E_InvalidSums : FnScope ["self", "word", "at"] ["self", "word", "at"] (defScope s_E_InvalidSums) := ⟨rfl, rfl, rfl, by decide +kernel, rfl, by decide +kernel, by decide +kernel⟩
end K36
end
section
set_option maxRecDepth 100000
set_option maxHeartbeats 4000000
namespace Dl
open PySem PySem.Spec PyProof.Rows L2
/-- the built-ins are still what they are -/
structure Bu (mg : Str → Option Value) : Prop where
  isi : mg "isinstance" = none
  int : mg "int" = none
  bool : mg "bool" = none
  str : mg "str" = none
  tuple : mg "tuple" = none
  list : mg "list" = none
  len : mg "len" = none
  all : mg "all" = none
  range : mg "range" = none
  sorted : mg "sorted" = none
  set : mg "set" = none
  repr : mg "repr" = none
theorem boot_all : bootBuiltins (Str.ofString "all") = some (.builtin "all") := by decide +kernel
theorem boot_tuple : bootBuiltins (Str.ofString "tuple") = some (.type "tuple") := by decide +kernel
theorem boot_list : bootBuiltins (Str.ofString "list") = some (.type "list") := by decide +kernel
theorem boot_bool : bootBuiltins (Str.ofString "bool") = some (.type "bool") := by decide +kernel
theorem boot_str : bootBuiltins (Str.ofString "str") = some (.type "str") := by decide +kernel
theorem boot_repr : bootBuiltins (Str.ofString "repr") = some (.builtin "repr") := by decide +kernel
theorem boot_int' : bootBuiltins (Str.ofString "int") = some (.type "int") := by decide +kernel
section
variable {X : Cx} {Wo : WO} {M : Md X.KK Wo} {ρ : List B} {t : Rs} {e : Expr} {P : PyData → Rs → Prop} {pos p : Pos}
theorem jd_len (u : Bu X.mg) (h : JD M e ρ t fun x t1 => ∃ n, lenD x = some n ∧ n ≤ 16777216 ∧ P (.int n) t1) (hg : Gl X (Str.ofString "len") := by rfl)
    (h3 : starEach [e] X.env = (false, eval e X.env) :: starEach [] X.env := by rfl) : JD M (.Call (.Name (Str.ofString "len") p) [e] [] pos) ρ t P :=
  jd_callB call_len hg u.len PySem.boot_len (ja_cons (h.imp fun x _ ⟨n, a, b, c⟩ => ja_nil (cn_len a b c)) h3) (h3 := h3)
theorem jd_intc (u : Bu X.mg) (h : JD M e ρ t fun x t1 => ∃ i, x = .int i ∧ P (.int i) t1) (hg : Gl X (Str.ofString "int") := by rfl)
    (h3 : starEach [e] X.env = (false, eval e X.env) :: starEach [] X.env := by rfl) : JD M (.Call (.Name (Str.ofString "int") p) [e] [] pos) ρ t P :=
  jd_callTy call_int1 hg u.int boot_int' (ja_cons (h.imp fun x _ ⟨n, a, c⟩ => ja_nil (by subst a; exact cn_int c)) h3) (h3 := h3)
theorem jd_tupc (u : Bu X.mg) (h : JD M e ρ t fun x t1 => ∃ xs, (x = .list xs ∨ x = .tuple xs) ∧ P (.tuple xs) t1) (hg : Gl X (Str.ofString "tuple") := by rfl)
    (h3 : starEach [e] X.env = (false, eval e X.env) :: starEach [] X.env := by rfl) : JD M (.Call (.Name (Str.ofString "tuple") p) [e] [] pos) ρ t P :=
  jd_callTy call_tuple_of hg u.tuple boot_tuple (ja_cons (h.imp fun x _ ⟨n, a, c⟩ => ja_nil (cn_tuple a c)) h3) (h3 := h3)
theorem jl_listc {P : List PyData → Rs → Prop} (u : Bu X.mg) (h : JD M e ρ t fun x t1 => ∃ xs, (x = .list xs ∨ x = .tuple xs) ∧ P xs t1) (hg : Gl X (Str.ofString "list") := by rfl)
    (h3 : starEach [e] X.env = (false, eval e X.env) :: starEach [] X.env := by rfl) : JL M (.Call (.Name (Str.ofString "list") p) [e] [] pos) ρ t P :=
  jl_callTy call_list_of hg u.list boot_list (ja_cons (h.imp fun x _ ⟨n, a, c⟩ => ja_nil (cn_list a c)) h3) (h3 := h3)
theorem jd_all (u : Bu X.mg) (hc : X.calm = true) (h : JD M e ρ t fun x t1 => ∃ bs : List Bool, x = .list (bs.map PyData.bool) ∧ P (.bool (bs.all id)) t1) (hg : Gl X (Str.ofString "all") := by rfl)
    (h3 : starEach [e] X.env = (false, eval e X.env) :: starEach [] X.env := by rfl) : JD M (.Call (.Name (Str.ofString "all") p) [e] [] pos) ρ t P :=
  jd_callB (cr_all hc) hg u.all boot_all (ja_cons (h.imp fun x _ ⟨n, a, c⟩ => ja_nil (by subst a; exact cn_all c)) h3) (h3 := h3)
end
abbrev JL.toD {X : Cx} {Wo : WO} {M : Md X.KK Wo} {ρ : List B} {t : Rs} {e : Expr} {P : PyData → Rs → Prop} (h : JL M e ρ t fun xs t' => P (.list xs) t') : JD M e ρ t P := DL.toD h
theorem fmod_pos {i j : Int} (h : 0 < j) : 0 ≤ i.fmod j ∧ i.fmod j < j := by
  rw [Int.fmod_eq_emod_of_nonneg _ (by omega)]
  exact ⟨Int.emod_nonneg _ (by omega), Int.emod_lt_of_pos _ h⟩
end Dl
namespace K36
open PySem PySem.Spec PyProof.Rows L2 Dl

local macro_rules | `(tactic| walk_at "nm") => `(tactic| first | refine jd_name 0 rfl ?_ | refine jd_name 1 rfl ?_ | refine jd_name 2 rfl ?_ | refine jd_name 3 rfl ?_ | refine jd_name 4 rfl ?_ | refine jd_name 5 rfl ?_ | refine jd_name 6 rfl ?_ | refine jd_name 7 rfl ?_ | refine jd_name 8 rfl ?_ | refine jd_name 9 rfl ?_ | refine jd_name 10 rfl ?_ | refine jd_name 11 rfl ?_ | refine jd_name 12 rfl ?_ | refine jd_name 13 rfl ?_)
local macro_rules | `(tactic| walk_at "sub") => `(tactic| fail)
local macro_rules | `(tactic| walk_at "call") => `(tactic| first | refine jd_len (by assumption) ?_ | refine jd_intc (by assumption) ?_ | refine jd_tupc (by assumption) ?_)
local macro_rules | `(tactic| walk_at "cmp") => `(tactic| first | refine jd_eq (by assumption) ?_ | refine jd_ne (by assumption) ?_)
local macro_rules | `(tactic| walk_at "cmpT") => `(tactic| first | refine jt_eq (by assumption) ?_ | refine jt_ne (by assumption) ?_)
local macro_rules | `(tactic| walk_at "callT") => `(tactic| refine jt_val ?_)
local macro_rules | `(tactic| walk_at "je") => `(tactic| first
  | with_reducible refine ⟨_, rfl, ?_⟩
  | (refine g_name ?_; walk_at "nm") | refine jd_int ?_ | refine jd_str ?_
  | (refine g_args ?_; refine ja_cons ?_) | refine ja_nil ?_ | refine jd_tup ?_
  | (refine g_call ?_; walk_at "call") | (refine g_sub ?_; walk_at "sub")
  | refine jd_add ?_ | refine jd_sub ?_ | refine jd_mul ?_ | refine jd_fdiv ?_ | refine jd_mod ?_ | refine jd_pow ?_
  | refine jt_lt ?_ | refine jt_le ?_ | refine jt_gt ?_ | refine jt_ge ?_ | refine jt_isN ?_ | refine jt_notN ?_ | refine jt_not ?_ | refine jw_and ?_ | refine jw_or ?_ | refine jw_and1 ?_ | refine jw_or1 ?_
  | (refine g_cmpT ?_; walk_at "cmpT") | (refine g_callT ?_; walk_at "callT")
  | refine jd_lt ?_ | refine jd_le ?_ | refine jd_gt ?_ | refine jd_ge ?_ | refine jd_isN ?_ | refine jd_notN ?_ | (refine g_cmp ?_; walk_at "cmp")
  | refine jd_bl ?_ | refine jd_non ?_
  | refine jd_if ?_ | refine jd_and ?_ | refine jd_or ?_ | refine jd_one ?_ | refine jd_not ?_ | refine jd_neg ?_
  | refine jo_none ?_ | refine jo_some ?_
  | refine jss_nil ?_ | refine jss_ret ?_ | refine jss_if0 ?_ | refine jss_if ?_ | refine jt_bop ?_
  | with_reducible refine And.intro (by assumption) ?_ | refine And.intro (show List.length _ = _ from rfl) ?_ | refine And.intro (Or.inl (by decide)) ?_ | refine And.intro (by decide : _ ≠ _) ?_ | refine And.intro ⟨by decide, by decide⟩ ?_ | refine And.intro ⟨by decide, by decide, by decide⟩ ?_
  | (dsimp only; first | refine jss_nil ?_ | refine jss_ret ?_))
local macro_rules | `(tactic| walk_at "sub") => `(tactic| first | refine jd_rdC 0 rfl ?_ | refine jd_rdN 0 (Or.inl rfl) rfl ?_ | refine jd_rdN 0 (Or.inr (Or.inl rfl)) rfl ?_ | refine jd_rdN 0 (Or.inr (Or.inr rfl)) rfl ?_)
local macro_rules | `(tactic| walk_at "rs") => `(tactic| first | refine jss_rdSet 0 (Or.inl rfl) rfl ?_ | refine jss_rdSet 0 (Or.inr (Or.inl rfl)) rfl ?_ | refine jss_rdSet 0 (Or.inr (Or.inr rfl)) rfl ?_)
end K36
namespace K36
open PySem PySem.Spec PyProof.Rows L2 Dl Dw Dz
abbrev m_l_draw : List B → W B := drawV
end K36
end
section
set_option maxRecDepth 100000
set_option maxHeartbeats 4000000
namespace K36
open PySem PySem.Spec PyProof.Rows L2 Dl Dw Dz Dy Dx
open Dw (ret)
section
variable {P : Program} {w : World} {K : PySem.W.Frag} {mg : Str → Option Value} {base : Heap}


/-- _wall -/
def m__wall : List B → W B := arg1 fun k1 => fnU (
  thn (whW (σ := Unit) (fun s2 => bnd (ret (.bool true)) asT) (fun s2 =>
  ret (.nx ())) ()) fun s3 =>
  ret (.nx ()))
theorem ok__wall {Wo : WO} {f : Addr} {fd : FuncData} (F : Fun K "_wall" "_wall" s__wall f fd) (u : Bb mg) : FnOk P w K mg base CX0 1 f fd ["k"] (spD (kkOf P w K) Wo 1 (Sm m__wall)) :=
  okD F sc__wall rfl fun cdv A outer s H E M bs t Q hr hl h => by
    obtain ⟨k1, rfl, h0⟩ := arg1_of h
    have nd := sc__wall.nd
    have ev : Ev (Xo P w K mg base ["k"] "_wall" s__wall f cdv A outer s H E) (0) := ⟨rfl, hr, u⟩
    exact fn_runU [.d k1] (emb := fun _ => [.un]) (rs_while (eme := fun s2 : Unit => [.d k1]) () PassesOwn.never (.same .nil) (fun s2 => rt_tru rd_bl) (fun s2 =>
  rs_pass (rs_nil (s := ()) (.same .nil))) fun s3 =>
  rs_nil (s := ()) (.un .nil)) h0
/-- added -/
def m_added : List B → W B := starArg 1 (arg2 fun one1 others2 => fnW (
  bnd (op1 otup (froz (compW (zipS (ret one1) (ret others2)) fun column3 => op1 osumT (ret column3)))) fun x => ret (.rt (.d x))))
theorem ok_added {Wo : WO} {f : Addr} {fd : FuncData} (F : Fun K "added" "added" s_added f fd) (u : Bb mg) : FnR P w K mg base CX0 1 f (spV (kkOf P w K) Wo (Sm m_added)) :=
  okV (n := 1) (ps := ["one"]) (pv := "others") (m := arg2 fun one1 others2 => fnW (
  bnd (op1 otup (froz (compW (zipS (ret one1) (ret others2)) fun column3 => op1 osumT (ret column3)))) fun x => ret (.rt (.d x)))) F sc_added rfl (fun kV doc pm an cdv ct => StX.bind_star1 (B := fun l => bindArgs (PySem.W.fnOf "added" "added" (defArgs s_added) (defBody s_added) (defScope s_added) .none kV doc pm an cdv ct) ⟨l, []⟩) (fun a0 => rfl) (fun a0 r rs => rfl)) fun cdv A outer s H E M bs t Q hr hl h => by
    obtain ⟨one1, others2, rfl, h0⟩ := arg2_of h
    have nd := sc_added.nd
    have ev : Ev (Xo P w K mg base ["one", "others", "column"] "added" s_added f cdv A outer s H E) (0) := ⟨rfl, hr, u⟩
    exact fn_run [.d one1, .d others2, .un] (rs_ret (rd_tupc ev (rd_l (rl_comp (own := [("column", 2)]) (gt := gName 2) ev nd (blkOk_by (N := ["one", "others", "column"]) (sc := defScope s_added) (by decide +kernel)) wipes1 (fun _ _ _ _ _ => pg_name (i := 2) nd rfl (by first | exact Or.inl rfl | exact Or.inr rfl)) (ri_zipS ev (rd_nm 0) (rd_nm 1)) (fun column3 => rge_one 2 (fun _ _ _ _ _ => rd_sumT ev.blk (rd_nm 2))))))) h0
/-- subtracted -/
def m_subtracted : List B → W B := arg2 fun one1 other2 => fnW (
  bnd (op1 otup (froz (compW (zipW (ret one1) (ret other2)) (two fun x3 y4 => op2 osub (ret x3) (ret y4))))) fun x => ret (.rt (.d x)))
theorem ok_subtracted {Wo : WO} {f : Addr} {fd : FuncData} (F : Fun K "subtracted" "subtracted" s_subtracted f fd) (u : Bb mg) : FnOk P w K mg base CX0 1 f fd ["one", "other"] (spD (kkOf P w K) Wo 2 (Sm m_subtracted)) :=
  okD F sc_subtracted rfl fun cdv A outer s H E M bs t Q hr hl h => by
    obtain ⟨one1, other2, rfl, h0⟩ := arg2_of h
    have nd := sc_subtracted.nd
    have ev : Ev (Xo P w K mg base ["one", "other", "x", "y"] "subtracted" s_subtracted f cdv A outer s H E) (0) := ⟨rfl, hr, u⟩
    exact fn_run [.d one1, .d other2, .un, .un] (rs_ret (rd_tupc ev (rd_l (rl_comp (own := [("x", 2), ("y", 3)]) (gt := gTup _ 2 (gCons (gName 2) (gCons (gName 3) (gNil)))) ev nd (blkOk_by (N := ["one", "other", "x", "y"]) (sc := defScope s_subtracted) (by decide +kernel)) (wipes2 (by decide)) (fun _ _ _ _ _ => pg_tup (by rfl) (pgs_cons (pg_name (i := 2) nd rfl (by first | exact Or.inl rfl | exact Or.inr rfl)) (pgs_cons (pg_name (i := 3) nd rfl (by first | exact Or.inl rfl | exact Or.inr rfl)) pgs_nil))) (ri_zip2 ev (rd_nm 0) (rd_nm 1)) (fun _ => rge_two 2 3 (fun x3 y4 _ _ _ _ _ => rd_sub (rd_nm 2) (rd_nm 3))))))) h0
/-- is_integer -/
def m_is_integer : List B → W B := arg1 fun thing1 => fnW (
  bnd (andW (op1 (oisi "int") (ret thing1)) (op1 onot (op1 (oisi "bool") (ret thing1)))) fun x => ret (.rt (.d x)))
theorem ok_is_integer {Wo : WO} {f : Addr} {fd : FuncData} (F : Fun K "is_integer" "is_integer" s_is_integer f fd) (u : Bb mg) : FnOk P w K mg base CX0 1 f fd ["thing"] (spD (kkOf P w K) Wo 1 (Sm m_is_integer)) :=
  okD F sc_is_integer rfl fun cdv A outer s H E M bs t Q hr hl h => by
    obtain ⟨thing1, rfl, h0⟩ := arg1_of h
    have nd := sc_is_integer.nd
    have ev : Ev (Xo P w K mg base ["thing"] "is_integer" s_is_integer f cdv A outer s H E) (0) := ⟨rfl, hr, u⟩
    exact fn_run [.d thing1] (rs_ret (rd_and (rd_isInt ev (rd_nm 0)) (rd_one (rd_not (rd_isBool ev (rd_nm 0)))))) h0
/-- is_integers -/
def m_is_integers : List B → W B := arg1 fun thing1 => fnW (
  bnd (andW (op1 (oisi "tuple") (ret thing1)) (op1 oall (froz (compW (itT (ret thing1)) fun one2 => bnd (callN 1 m_is_integer (dA (ret one2) (ret []))) asD)))) fun x => ret (.rt (.d x)))
theorem ok_is_integers {Wo : WO} {f : Addr} {fd : FuncData} (F : Fun K "is_integers" "is_integers" s_is_integers f fd) (u : Bb mg) (D_is_integer : Def P w K Wo mg base 1 "is_integer" 1 (Sm m_is_integer)) : FnOk P w K mg base CX0 2 f fd ["thing"] (spD (kkOf P w K) Wo 1 (Sm m_is_integers)) :=
  okD F sc_is_integers rfl fun cdv A outer s H E M bs t Q hr hl h => by
    obtain ⟨thing1, rfl, h0⟩ := arg1_of h
    have nd := sc_is_integers.nd
    have ev : Ev (Xo P w K mg base ["thing", "one"] "is_integers" s_is_integers f cdv A outer s H E) (1) := ⟨rfl, hr, u⟩
    exact fn_run [.d thing1, .un] (rs_ret (rd_and (rd_isTup ev (rd_nm 0)) (rd_one (rd_all ev (rd_l (rl_comp (own := [("one", 1)]) (gt := gName 1) ev nd (blkOk_by (N := ["thing", "one"]) (sc := defScope s_is_integers) (by decide +kernel)) wipes1 (fun _ _ _ _ _ => pg_name (i := 1) nd rfl (by first | exact Or.inl rfl | exact Or.inr rfl)) (ri_T (rd_nm 0)) (fun one2 => rge_one 1 (fun _ _ _ _ _ => rd_call ev.blk D_is_integer (ra_cons (rd_nm 1) ra_nil))))))))) h0
/-- as_set -/
def m_as_set : List B → W B := arg1 fun sums1 => fnW (
  bnd (op1 otup (froz (sdQ (ret sums1)))) fun x => ret (.rt (.d x)))
theorem ok_as_set {Wo : WO} {f : Addr} {fd : FuncData} (F : Fun K "as_set" "as_set" s_as_set f fd) (u : Bb mg) : FnOk P w K mg base CX0 1 f fd ["sums"] (spD (kkOf P w K) Wo 1 (Sm m_as_set)) :=
  okD F sc_as_set rfl fun cdv A outer s H E M bs t Q hr hl h => by
    obtain ⟨sums1, rfl, h0⟩ := arg1_of h
    have nd := sc_as_set.nd
    have ev : Ev (Xo P w K mg base ["sums"] "as_set" s_as_set f cdv A outer s H E) (0) := ⟨rfl, hr, u⟩
    exact fn_run [.d sums1] (rs_ret (rd_tupc ev (rd_l (rl_sortedSetQ ev (rd_nm 0))))) h0
/-- all_added -/
def m_all_added : List B → W B := arg2 fun ones1 others2 => fnW (
  bnd (bnd (callN 1 m_as_set (dA (froz (comp2W (itT (ret ones1)) (fun one3 => itT (ret others2)) (fun one3 other4 => bnd (bnd (dA (ret one3) (dA (ret other4) (ret []))) fun bs => need (bs.length ≤ 16777216) (m_added bs)) asD))) (ret []))) asD) fun x => ret (.rt (.d x)))
theorem ok_all_added {Wo : WO} {f : Addr} {fd : FuncData} (F : Fun K "all_added" "all_added" s_all_added f fd) (u : Bb mg) (D_as_set : Def P w K Wo mg base 1 "as_set" 1 (Sm m_as_set)) (D_added : DefV P w K Wo mg base 1 "added" (Sm m_added)) : FnOk P w K mg base CX0 2 f fd ["ones", "others"] (spD (kkOf P w K) Wo 2 (Sm m_all_added)) :=
  okD F sc_all_added rfl fun cdv A outer s H E M bs t Q hr hl h => by
    obtain ⟨ones1, others2, rfl, h0⟩ := arg2_of h
    have nd := sc_all_added.nd
    have ev : Ev (Xo P w K mg base ["ones", "others", "one", "other"] "all_added" s_all_added f cdv A outer s H E) (1) := ⟨rfl, hr, u⟩
    exact fn_run [.d ones1, .d others2, .un, .un] (rs_ret (rd_call ev D_as_set (ra_cons (rd_l (rl_comp2 (x := "one") (y := "other") 2 3 ev nd (blkOk_by (N := ["ones", "others", "one", "other"]) (sc := defScope s_all_added) (by decide +kernel)) (by decide) (fun _ _ _ _ _ => pg_name (i := 2) nd rfl (by first | exact Or.inl rfl | exact Or.inr rfl)) (fun _ _ _ _ _ => pg_name (i := 3) nd rfl (by first | exact Or.inl rfl | exact Or.inr rfl)) (ri_T (rd_nm 0)) (fun one3 _ _ _ _ _ => ri_T (rd_nm 1)) (fun one3 other4 _ _ _ _ _ => rd_callV ev.blk D_added (ra_cons (rd_nm 2) (ra_cons (rd_nm 3) ra_nil))))) ra_nil))) h0
/-- rest_of_sums -/
def m_rest_of_sums : List B → W B := arg2 fun sums1 target2 => fnW (
  bnd (op1 osetW (ret target2)) fun held3 =>
  bnd (compW (itT (ret target2)) fun one4 => bnd (callN 2 m_subtracted (dA (ret one4) (dA (op2 oix (ret sums1) (ret (.int 0))) (ret [])))) asD) fun candidates5 =>
  bnd (bnd (callN 1 m_as_set (dA (froz (compO (itL (ret (.list candidates5))) fun one6 => optW (bnd (op1 oall (froz (compW (itT (ret sums1)) fun other7 => op2 (oinS false) (bnd (bnd (dA (ret one6) (dA (ret other7) (ret []))) fun bs => need (bs.length ≤ 16777216) (m_added bs)) asD) (ret held3)))) asT) (ret one6))) (ret []))) asD) fun x => ret (.rt (.d x)))
theorem ok_rest_of_sums {Wo : WO} {f : Addr} {fd : FuncData} (F : Fun K "rest_of_sums" "rest_of_sums" s_rest_of_sums f fd) (u : Bb mg) (D_as_set : Def P w K Wo mg base 1 "as_set" 1 (Sm m_as_set)) (D_subtracted : Def P w K Wo mg base 1 "subtracted" 2 (Sm m_subtracted)) (D_added : DefV P w K Wo mg base 1 "added" (Sm m_added)) : FnOk P w K mg base CX0 2 f fd ["sums", "target"] (spD (kkOf P w K) Wo 2 (Sm m_rest_of_sums)) :=
  okD F sc_rest_of_sums rfl fun cdv A outer s H E M bs t Q hr hl h => by
    obtain ⟨sums1, target2, rfl, h0⟩ := arg2_of h
    have nd := sc_rest_of_sums.nd
    have ev : Ev (Xo P w K mg base ["sums", "target", "held", "candidates", "one", "other"] "rest_of_sums" s_rest_of_sums f cdv A outer s H E) (1) := ⟨rfl, hr, u⟩
    exact fn_run [.d sums1, .d target2, .un, .un, .un, .un] (rs_set 2 nd (rd_setQ ev (rd_nm 1)) fun held3 =>
  rs_setC 3 (own := [("one", 4)]) (gt := gName 4) ev nd (blkOk_by (N := ["sums", "target", "held", "candidates", "one", "other"]) (sc := defScope s_rest_of_sums) (by decide +kernel)) wipes1 (fun _ _ _ _ _ => pg_name (i := 4) nd rfl (by first | exact Or.inl rfl | exact Or.inr rfl)) (ri_T (rd_nm 1)) (fun one4 => rge_one 4 (fun _ _ _ _ _ => rd_call ev.blk D_subtracted (ra_cons (rd_nm 4) (ra_cons (rd_ix (rd_nm 0) rd_int) ra_nil)))) fun candidates5 =>
  rs_fz 3 (rs_ret (rd_call ev D_as_set (ra_cons (rd_l (rl_compO (own := [("one", 4)]) (gt := gName 4) ev nd (blkOk_by (N := ["sums", "target", "held", "candidates", "one", "other"]) (sc := defScope s_rest_of_sums) (by decide +kernel)) wipes1 (fun _ _ _ _ _ => pg_name (i := 4) nd rfl (by first | exact Or.inl rfl | exact Or.inr rfl)) (ri_L (rd_nm 3)) (fun one6 => rgi_one 4 (fun _ _ _ _ _ => rt_tru (rd_all ev.blk (rd_l (rl_comp (own := [("other", 5)]) (gt := gName 5) ev.blk nd (blkOk_by (N := ["sums", "target", "held", "candidates", "one", "other"]) (sc := ({ kind := ScopeKind.function, names := [(Str.ofString ".0", NameKind.«local»), (Str.ofString "one", NameKind.cell), (Str.ofString "all", NameKind.globalImplicit), (Str.ofString "held", NameKind.cell), (Str.ofString "sums", NameKind.cell)], isGenerator := false, isCoroutine := false } : Scope)) (by decide +kernel)) wipes1 (fun _ _ _ _ _ => pg_name (i := 5) nd rfl (by first | exact Or.inl rfl | exact Or.inr rfl)) (ri_T (rd_nm 0)) (fun other7 => rge_one 5 (fun _ _ _ _ _ => rd_inS ev.blk.blk (rd_callV ev.blk.blk D_added (ra_cons (rd_nm 4) (ra_cons (rd_nm 5) ra_nil))) (rd_nm 2))))))) (fun _ _ _ _ _ => rd_nm 4)))) ra_nil)))) h0
/-- _is_long_sum -/
def m__is_long_sum : List B → W B := arg1 fun thing1 => fnW (
  bnd (andW (bnd (callN 1 m_is_integers (dA (ret thing1) (ret []))) asD) (op2 one_ (ret thing1) (disp (ret []) fun xs => ret (.tuple xs)))) fun x => ret (.rt (.d x)))
theorem ok__is_long_sum {Wo : WO} {f : Addr} {fd : FuncData} (F : Fun K "_is_long_sum" "_is_long_sum" s__is_long_sum f fd) (u : Bb mg) (D_is_integers : Def P w K Wo mg base 2 "is_integers" 1 (Sm m_is_integers)) : FnOk P w K mg base CX0 3 f fd ["thing"] (spD (kkOf P w K) Wo 1 (Sm m__is_long_sum)) :=
  okD F sc__is_long_sum rfl fun cdv A outer s H E M bs t Q hr hl h => by
    obtain ⟨thing1, rfl, h0⟩ := arg1_of h
    have nd := sc__is_long_sum.nd
    have ev : Ev (Xo P w K mg base ["thing"] "_is_long_sum" s__is_long_sum f cdv A outer s H E) (2) := ⟨rfl, hr, u⟩
    exact fn_run [.d thing1] (rs_ret (rd_and (rd_call ev D_is_integers (ra_cons (rd_nm 0) ra_nil)) (rd_one (rd_ne ev (rd_nm 0) (rd_tup ra_nil))))) h0
/-- _are_long_sums -/
def m__are_long_sums : List B → W B := arg1 fun thing1 => fnW (
  bnd (andW (op1 (oisi "tuple") (ret thing1)) (op1 oall (froz (compW (itT (ret thing1)) fun one2 => bnd (callN 1 m__is_long_sum (dA (ret one2) (ret []))) asD)))) fun x => ret (.rt (.d x)))
theorem ok__are_long_sums {Wo : WO} {f : Addr} {fd : FuncData} (F : Fun K "_are_long_sums" "_are_long_sums" s__are_long_sums f fd) (u : Bb mg) (D__is_long_sum : Def P w K Wo mg base 3 "_is_long_sum" 1 (Sm m__is_long_sum)) : FnOk P w K mg base CX0 4 f fd ["thing"] (spD (kkOf P w K) Wo 1 (Sm m__are_long_sums)) :=
  okD F sc__are_long_sums rfl fun cdv A outer s H E M bs t Q hr hl h => by
    obtain ⟨thing1, rfl, h0⟩ := arg1_of h
    have nd := sc__are_long_sums.nd
    have ev : Ev (Xo P w K mg base ["thing", "one"] "_are_long_sums" s__are_long_sums f cdv A outer s H E) (3) := ⟨rfl, hr, u⟩
    exact fn_run [.d thing1, .un] (rs_ret (rd_and (rd_isTup ev (rd_nm 0)) (rd_one (rd_all ev (rd_l (rl_comp (own := [("one", 1)]) (gt := gName 1) ev nd (blkOk_by (N := ["thing", "one"]) (sc := defScope s__are_long_sums) (by decide +kernel)) wipes1 (fun _ _ _ _ _ => pg_name (i := 1) nd rfl (by first | exact Or.inl rfl | exact Or.inr rfl)) (ri_T (rd_nm 0)) (fun one2 => rge_one 1 (fun _ _ _ _ _ => rd_call ev.blk D__is_long_sum (ra_cons (rd_nm 1) ra_nil))))))))) h0
/-- law: plus -/
def m_l_plus : List B → W B := arg2 fun early1 late2 => fnW (
  bnd (op1 otup (froz (compW (rng1 (op1 olen (ret early1))) fun k3 => op2 oadd (op2 oix (ret early1) (ret k3)) (op2 oix (ret late2) (ret k3))))) fun x => ret (.rt (.d x)))
theorem ok_l_plus {Wo : WO} {f : Addr} {fd : FuncData} (F : Fun K "_law_plus" "_law_plus" s__law_plus f fd) (u : Bb mg) : FnOk P w K mg base CX0 1 f fd ["_law_early", "_law_late"] (spD (kkOf P w K) Wo 2 (Sm m_l_plus)) :=
  okD F sc__law_plus rfl fun cdv A outer s H E M bs t Q hr hl h => by
    obtain ⟨early1, late2, rfl, h0⟩ := arg2_of h
    have nd := sc__law_plus.nd
    have ev : Ev (Xo P w K mg base ["_law_early", "_law_late", "_law_k"] "_law_plus" s__law_plus f cdv A outer s H E) (0) := ⟨rfl, hr, u⟩
    exact fn_run [.d early1, .d late2, .un] (rs_ret (rd_tupc ev (rd_l (rl_comp (own := [("_law_k", 2)]) (gt := gName 2) ev nd (blkOk_by (N := ["_law_early", "_law_late", "_law_k"]) (sc := defScope s__law_plus) (by decide +kernel)) wipes1 (fun _ _ _ _ _ => pg_name (i := 2) nd rfl (by first | exact Or.inl rfl | exact Or.inr rfl)) (ri_r1 ev (rd_len ev (rd_nm 0))) (fun k3 => rge_one 2 (fun _ _ _ _ _ => rd_add (rd_ix (rd_nm 0) (rd_nm 2)) (rd_ix (rd_nm 1) (rd_nm 2)))))))) h0
/-- law: minus -/
def m_l_minus : List B → W B := arg2 fun early1 late2 => fnW (
  bnd (op1 otup (froz (compW (rng1 (op1 olen (ret early1))) fun k3 => op2 osub (op2 oix (ret early1) (ret k3)) (op2 oix (ret late2) (ret k3))))) fun x => ret (.rt (.d x)))
theorem ok_l_minus {Wo : WO} {f : Addr} {fd : FuncData} (F : Fun K "_law_minus" "_law_minus" s__law_minus f fd) (u : Bb mg) : FnOk P w K mg base CX0 1 f fd ["_law_early", "_law_late"] (spD (kkOf P w K) Wo 2 (Sm m_l_minus)) :=
  okD F sc__law_minus rfl fun cdv A outer s H E M bs t Q hr hl h => by
    obtain ⟨early1, late2, rfl, h0⟩ := arg2_of h
    have nd := sc__law_minus.nd
    have ev : Ev (Xo P w K mg base ["_law_early", "_law_late", "_law_k"] "_law_minus" s__law_minus f cdv A outer s H E) (0) := ⟨rfl, hr, u⟩
    exact fn_run [.d early1, .d late2, .un] (rs_ret (rd_tupc ev (rd_l (rl_comp (own := [("_law_k", 2)]) (gt := gName 2) ev nd (blkOk_by (N := ["_law_early", "_law_late", "_law_k"]) (sc := defScope s__law_minus) (by decide +kernel)) wipes1 (fun _ _ _ _ _ => pg_name (i := 2) nd rfl (by first | exact Or.inl rfl | exact Or.inr rfl)) (ri_r1 ev (rd_len ev (rd_nm 0))) (fun k3 => rge_one 2 (fun _ _ _ _ _ => rd_sub (rd_ix (rd_nm 0) (rd_nm 2)) (rd_ix (rd_nm 1) (rd_nm 2)))))))) h0
/-- law: left -/
def m_l_left : List B → W B := arg2 fun lot_here1 goal2 => fnW (
  bnd (disp (ret []) ret) fun found3 => bnd (op1 odctW (froz (compW (itT (ret goal2)) fun spot4 => disp (dA (ret spot4) (dA (ret (.bool true)) (ret []))) fun xs => ret (.tuple xs)))) fun spots5 =>
  bnd (itT (ret goal2)) fun xs13 => thn (forW (σ := List PyData) (fun s6 spot8 =>
  bnd (bnd (callN 2 m_l_minus (dA (ret spot8) (dA (op2 oix (ret lot_here1) (ret (.int 0))) (ret [])))) asD) fun free9 =>
  joi (α := List PyData) (ifW (bnd (op2 oeq (froz (compO (itT (ret lot_here1)) fun early10 => optW (bnd (op2 (oinD true) (bnd (callN 2 m_l_plus (dA (ret free9) (dA (ret early10) (ret [])))) asD) (ret spots5)) asB) (ret early10))) (froz (disp (ret []) ret))) asB) (bnd (ret free9) fun y12 => need ((s6).length < 16777216) (
  ret (.nx (s6 ++ [y12])))) (ret (.nx s6))) fun s11 =>
  ret (.nx s11)) xs13 found3) fun s7 =>
  bnd (op1 otup (froz (srtW (ret (.list s7))))) fun x => ret (.rt (.d x)))
theorem ok_l_left {Wo : WO} {f : Addr} {fd : FuncData} (F : Fun K "_law_left" "_law_left" s__law_left f fd) (u : Bb mg) (D_l_minus : Def P w K Wo mg base 1 "_law_minus" 2 (Sm m_l_minus)) (D_l_plus : Def P w K Wo mg base 1 "_law_plus" 2 (Sm m_l_plus)) : FnOk P w K mg base CX0 2 f fd ["_law_lot_here", "_law_goal"] (spD (kkOf P w K) Wo 2 (Sm m_l_left)) :=
  okD F sc__law_left rfl fun cdv A outer s H E M bs t Q hr hl h => by
    obtain ⟨lot_here1, goal2, rfl, h0⟩ := arg2_of h
    have nd := sc__law_left.nd
    have ev : Ev (Xo P w K mg base ["_law_lot_here", "_law_goal", "_law_spot", "_law_found", "_law_spots", "_law_free", "_law_early"] "_law_left" s__law_left f cdv A outer s H E) (1) := ⟨rfl, hr, u⟩
    exact fn_run [.d lot_here1, .d goal2, .un, .un, .un, .un, .un] (rs_parLDg 3 4 (pg_tup (by rfl) (pgs_cons (pg_name (i := 3) nd rfl (by first | exact Or.inl rfl | exact Or.inr rfl)) (pgs_cons (pg_name (i := 4) nd rfl (by first | exact Or.inl rfl | exact Or.inr rfl)) pgs_nil))) (rl_lst ra_nil) (rd_dictP ev (rd_l (rl_comp (own := [("_law_spot", 2)]) (gt := gName 2) ev nd (blkOk_by (N := ["_law_lot_here", "_law_goal", "_law_spot", "_law_found", "_law_spots", "_law_free", "_law_early"]) (sc := defScope s__law_left) (by decide +kernel)) wipes1 (fun _ _ _ _ _ => pg_name (i := 2) nd rfl (by first | exact Or.inl rfl | exact Or.inr rfl)) (ri_T (rd_nm 1)) (fun spot4 => rge_one 2 (fun _ _ _ _ _ => rd_tup (ra_cons (rd_nm 2) (ra_cons rd_bl ra_nil))))))) fun found3 spots5 =>
  rs_for (eme := fun s6 : List PyData => [.d lot_here1, .d goal2, .un, .own s6, .d spots5, .un, .un]) found3 ev PassesOwn.never (.same (.same (.same (.same (.same (.same (.same .nil))))))) (pg_name (i := 2) nd rfl (by first | exact Or.inl rfl | exact Or.inr rfl)) (ri_T (rd_nm 1)) (fun s6 spot8 => rg_one 2 (
  rs_set 5 nd (rd_call ev D_l_minus (ra_cons (rd_nm 2) (ra_cons (rd_ix (rd_nm 0) rd_int) ra_nil))) fun free9 =>
  rs_ifJ (eme := fun s11 : List PyData => [.d lot_here1, .d goal2, .d spot8, .own s11, .d spots5, .d free9, .un]) (rt_eq ev (rd_l (rl_compO (own := [("_law_early", 6)]) (gt := gName 6) ev nd (blkOk_by (N := ["_law_lot_here", "_law_goal", "_law_spot", "_law_found", "_law_spots", "_law_free", "_law_early"]) (sc := defScope s__law_left) (by decide +kernel)) wipes1 (fun _ _ _ _ _ => pg_name (i := 6) nd rfl (by first | exact Or.inl rfl | exact Or.inr rfl)) (ri_T (rd_nm 0)) (fun early10 => rgi_one 6 (fun _ _ _ _ _ => rt_ninD ev.blk (rd_call ev.blk D_l_plus (ra_cons (rd_nm 5) (ra_cons (rd_nm 6) ra_nil))) (rd_nm 4)) (fun _ _ _ _ _ => rd_nm 6)))) (rd_l (rl_lst ra_nil))) (rs_app 3 (rd_nm 5) fun y12 =>
  rs_nil (s := (s6 ++ [y12])) (.same (.same (.same (.same (.same (.same (.same .nil)))))))) (rs_nil (s := s6) (.same (.same (.same (.same (.same (.same (.same .nil)))))))) fun s11 =>
  rs_nil (s := s11) (.same (.same (.un (.same (.same (.un (.same .nil))))))))) fun s7 =>
  rs_fz 3 (rs_ret (rd_tupc ev (rd_l (rl_sortL ev (rd_nm 3)))))) h0
/-- law: value -/
def m_l_value : List B → W B := arg2 fun lot_here1 goal2 => fnW (
  bnd (bnd (callN 2 m_l_left (dA (ret lot_here1) (dA (ret goal2) (ret [])))) asD) fun rest3 =>
  bnd (ifW (bnd (op2 one_ (ret rest3) (disp (ret []) fun xs => ret (.tuple xs))) asB) (bnd (callN 2 m_l_left (dA (ret rest3) (dA (ret goal2) (ret [])))) asD) (ret .none)) fun x => ret (.rt (.d x)))
theorem ok_l_value {Wo : WO} {f : Addr} {fd : FuncData} (F : Fun K "_law_value" "_law_value" s__law_value f fd) (u : Bb mg) (D_l_left : Def P w K Wo mg base 2 "_law_left" 2 (Sm m_l_left)) : FnOk P w K mg base CX0 3 f fd ["_law_lot_here", "_law_goal"] (spD (kkOf P w K) Wo 2 (Sm m_l_value)) :=
  okD F sc__law_value rfl fun cdv A outer s H E M bs t Q hr hl h => by
    obtain ⟨lot_here1, goal2, rfl, h0⟩ := arg2_of h
    have nd := sc__law_value.nd
    have ev : Ev (Xo P w K mg base ["_law_lot_here", "_law_goal", "_law_rest"] "_law_value" s__law_value f cdv A outer s H E) (2) := ⟨rfl, hr, u⟩
    exact fn_run [.d lot_here1, .d goal2, .un] (rs_set 2 nd (rd_call ev D_l_left (ra_cons (rd_nm 0) (ra_cons (rd_nm 1) ra_nil))) fun rest3 =>
  rs_ret (rd_if (rt_ne ev (rd_nm 2) (rd_tup ra_nil)) (rd_call ev D_l_left (ra_cons (rd_nm 2) (ra_cons (rd_nm 1) ra_nil))) rd_non)) h0
/-- law: lot -/
def m_l_lot : List B → W B := argR2 fun many1 most2 => fnW (
  bnd (disp (ret []) ret) fun found3 =>
  bnd (rng1 (op2 oadd (ret (.int 1)) (bnd (callN 2 m_l_draw (rdA (dA (ret most2) (ret [])))) asD))) fun xs9 => thn (forW (σ := List PyData) (fun s4 lap6 =>
  bnd (op1 otup (froz (compW (rng1 (ret many1)) fun k7 => op2 osub (bnd (callN 2 m_l_draw (rdA (dA (ret (.int 5)) (ret [])))) asD) (ret (.int 2))))) fun y8 => need ((s4).length < 16777216) (
  ret (.nx (s4 ++ [y8])))) xs9 found3) fun s5 =>
  bnd (op1 otup (froz (sdQ (ret (.list s5))))) fun x => ret (.rt (.d x)))
theorem ok_l_lot {Wo : WO} {f : Addr} {fd : FuncData} (F : Fun K "_law_lot" "_law_lot" s__law_lot f fd) (u : Bb mg) (D_l_draw : Def P w K Wo mg base 1 "_law_draw" 2 (Sm m_l_draw)) : FnOk P w K mg base CX0 2 f fd ["_law_source_here", "_law_many", "_law_most"] (spD (kkOf P w K) Wo 3 (Sm m_l_lot)) :=
  okD F sc__law_lot rfl fun cdv A outer s H E M bs t Q hr hl h => by
    obtain ⟨many1, most2, rfl, h0⟩ := argR2_of h
    have nd := sc__law_lot.nd
    have ev : Ev (Xo P w K mg base ["_law_source_here", "_law_many", "_law_most", "_law_found", "_law_lap", "_law_k"] "_law_lot" s__law_lot f cdv A outer s H E) (1) := ⟨rfl, hr, u⟩
    exact fn_run [.rd, .d many1, .d most2, .un, .un, .un] (rs_setL 3 nd (rl_lst ra_nil) fun found3 =>
  rs_for (eme := fun s4 : List PyData => [.rd, .d many1, .d most2, .own s4, .un, .un]) found3 ev PassesOwn.never (.same (.same (.same (.same (.same (.same .nil)))))) (pg_name (i := 4) nd rfl (by first | exact Or.inl rfl | exact Or.inr rfl)) (ri_r1 ev (rd_add rd_int (rd_call ev D_l_draw (ra_rd 0 (ra_cons (rd_nm 2) ra_nil))))) (fun s4 lap6 => rg_one 4 (
  rs_app 3 (rd_tupc ev (rd_l (rl_comp (own := [("_law_k", 5)]) (gt := gName 5) ev nd (blkOk_by (N := ["_law_source_here", "_law_many", "_law_most", "_law_found", "_law_lap", "_law_k"]) (sc := defScope s__law_lot) (by decide +kernel)) wipes1 (fun _ _ _ _ _ => pg_name (i := 5) nd rfl (by first | exact Or.inl rfl | exact Or.inr rfl)) (ri_r1 ev (rd_nm 1)) (fun k7 => rge_one 5 (fun _ _ _ _ _ => rd_sub (rd_call ev.blk D_l_draw (ra_rd 0 (ra_cons rd_int ra_nil))) rd_int))))) fun y8 =>
  rs_nil (s := (s4 ++ [y8])) (.same (.same (.same (.same (.un (.same .nil)))))))) fun s5 =>
  rs_fz 3 (rs_ret (rd_tupc ev (rd_l (rl_sortedSetQ ev (rd_nm 3)))))) h0
/-- Sums.__init__ -/
def m_S___init__ (C : Addr) (er : Str → Addr) (Ex : XW) : List B → W (List (PyData × PyData)) := argI1 fun sums1 => fnI (
  ifW (notT (bnd (bnd (callN 1 m__are_long_sums (dA (ret sums1) (ret []))) asD) asT)) (upO (raiW (er "InvalidSums") ["word", "at"] Ex (dA (ret (.str "shape")) (dA (op1 oneg (ret (.int 1))) (ret []))))) (
  bnd (enumW (ret sums1)) fun xs7 => thn (forW (σ := Unit) (fun s2 => two fun at4 one5 =>
  ifW (bnd (op2 one_ (op1 olen (ret one5)) (op1 olen (op2 oix (ret sums1) (ret (.int 0))))) asB) (upO (raiW (er "InvalidSums") ["word", "at"] Ex (dA (ret (.str "length")) (dA (ret at4) (ret []))))) (
  ret (.nx ()))) xs7 ()) fun s3 =>
  bnd (bnd (callN 1 m_as_set (dA (ret sums1) (ret []))) asD) fun y6 =>
  ret (.nx (putD "_form" y6 []))))
theorem ok_S___init__ {Wo : WO} {f : Addr} {fd : FuncData} (F : Fun K "__init__" "Sums.__init__" s_S___init__ f fd) (u : Bb mg) {C : Addr} {er : Str → Addr} (KL : Kls K C) (mC : mg "Sums" = some (.ref C)) (nF__form : NoAttr K C "_form") (E_InvalidSums : EDef P w K mg base 1 "InvalidSums" (er "InvalidSums") ["word", "at"]) (D_as_set : Def P w K Wo mg base 1 "as_set" 1 (Sm m_as_set)) (D__are_long_sums : Def P w K Wo mg base 4 "_are_long_sums" 1 (Sm m__are_long_sums)) : FnOk P w K mg base (L2.CX P w) 5 f fd ["self", "sums"] (spXI (kkOf P w K) Wo C 1 (m_S___init__ C er)) :=
  okIX F sc_S___init__ rfl fun cdv A outer s H E M a bs t Q Ex hr T hl h => by
    obtain ⟨sums1, rfl, h0⟩ := argI1_of h
    have nd := sc_S___init__.nd
    have ev : Ev (Xr P w K mg base ["self", "sums", "at", "one"] "Sums.__init__" s_S___init__ f cdv A outer s H E) (4) := ⟨rfl, hr, u⟩
    exact fnI_run (emb := fun ds => [.new a C ds, .un, .un, .un]) [.new a C [], .d sums1, .un, .un] (rs_if0 (rt_not (rt_tru (rd_call ev D__are_long_sums (ra_cons (rd_nm 1) ra_nil)))) (rs_raise T ev E_InvalidSums (ra_cons rd_str (ra_cons (rd_neg rd_int) ra_nil))) (
  rs_for (eme := fun s2 : Unit => [.new a C [], .d sums1, .un, .un]) () ev (passes_of rfl) (.same (.same (.same (.same .nil)))) (pg_tup (by rfl) (pgs_cons (pg_name (i := 2) nd rfl (by first | exact Or.inl rfl | exact Or.inr rfl)) (pgs_cons (pg_name (i := 3) nd rfl (by first | exact Or.inl rfl | exact Or.inr rfl)) pgs_nil))) (ri_enumT ev (rd_nm 1)) (fun s2 _ => rg_two 2 3 fun at4 one5 =>
  rs_if0 (rt_ne ev (rd_len ev (rd_nm 3)) (rd_len ev (rd_ix (rd_nm 1) rd_int))) (rs_raise T ev E_InvalidSums (ra_cons rd_str (ra_cons (rd_nm 2) ra_nil))) (
  rs_nil (s := ()) (.same (.same (.un (.un .nil)))))) fun s3 =>
  rs_fld 0 KL nF__form (rd_call ev D_as_set (ra_cons (rd_nm 1) ra_nil)) fun y6 =>
  rs_nil (s := (putD "_form" y6 [])) (.same (.un (.same (.same .nil)))))) h0 fun _ => rfl
/-- Sums._check_length -/
def m_S__check_length (C : Addr) (er : Str → Addr) (Ex : XW) : List B → W B := arg2 fun self1 other2 => fnU (
  ifW (andT (bnd (bnd (ret self1) (fldW C "_form")) asT) (andT (bnd (bnd (ret other2) (fldW C "_form")) asT) (bnd (op2 one_ (op1 olen (op2 oix (bnd (ret self1) (fldW C "_form")) (ret (.int 0)))) (op1 olen (op2 oix (bnd (ret other2) (fldW C "_form")) (ret (.int 0))))) asB))) (upO (raiW (er "InvalidSums") ["word", "at"] Ex (dA (ret (.str "length")) (dA (op1 oneg (ret (.int 1))) (ret []))))) (
  ret (.nx ())))
theorem ok_S__check_length {Wo : WO} {f : Addr} {fd : FuncData} (F : Fun K "_check_length" "Sums._check_length" s_S__check_length f fd) (u : Bb mg) {C : Addr} {er : Str → Addr} (KL : Kls K C) (mC : mg "Sums" = some (.ref C)) (nF__form : NoAttr K C "_form") (E_InvalidSums : EDef P w K mg base 1 "InvalidSums" (er "InvalidSums") ["word", "at"]) : FnOk P w K mg base (L2.CX P w) 3 f fd ["self", "other"] (spX (kkOf P w K) Wo 2 (SmX (m_S__check_length C er))) :=
  okDX F sc_S__check_length rfl fun cdv A outer s H E M bs t Q Ex hr T hl h => by
    obtain ⟨self1, other2, rfl, h0⟩ := arg2_of h
    have nd := sc_S__check_length.nd
    have ev : Ev (Xr P w K mg base ["self", "other"] "Sums._check_length" s_S__check_length f cdv A outer s H E) (2) := ⟨rfl, hr, u⟩
    exact fn_runU [.d self1, .d other2] (emb := fun _ => [.un, .un]) (rs_if0 (rt_v (rv_and (rt_tru (rd_fld KL nF__form (rd_nm 0))) (rv_and (rt_tru (rd_fld KL nF__form (rd_nm 1))) (rv_one (rt_ne ev (rd_len ev (rd_ix (rd_fld KL nF__form (rd_nm 0)) rd_int)) (rd_len ev (rd_ix (rd_fld KL nF__form (rd_nm 1)) rd_int))))))) (rs_raise T ev E_InvalidSums (ra_cons rd_str (ra_cons (rd_neg rd_int) ra_nil))) (
  rs_nil (s := ()) (.un (.un .nil)))) h0
/-- Sums.rest_in -/
def m_S_rest_in (C : Addr) (er : Str → Addr) (Ex : XW) : List B → W B := arg2 fun self1 target2 => fnW (
  ifW (notT (bnd (bnd (ret self1) (fldW C "_form")) asT)) (upO (raiW (er "InvalidSums") ["word", "at"] Ex (dA (ret (.str "empty")) (dA (op1 oneg (ret (.int 1))) (ret []))))) (
  bnd (methW C "_check_length" 2 (m_S__check_length C er Ex) (ret self1) (dA (ret target2) (ret []))) fun _ =>
  bnd (bnd (dA (bnd (callN 2 m_rest_of_sums (dA (bnd (ret self1) (fldW C "_form")) (dA (bnd (ret target2) (fldW C "_form")) (ret [])))) asD) (ret [])) fun bs => need (bs.length = 1) (mkW C (m_S___init__ C er Ex) bs)) fun x => ret (.rt (.d x))))
theorem ok_S_rest_in {Wo : WO} {f : Addr} {fd : FuncData} (F : Fun K "rest_in" "Sums.rest_in" s_S_rest_in f fd) (u : Bb mg) {C : Addr} {er : Str → Addr} (KL : Kls K C) (mC : mg "Sums" = some (.ref C)) (nF__form : NoAttr K C "_form") (E_InvalidSums : EDef P w K mg base 1 "InvalidSums" (er "InvalidSums") ["word", "at"]) (D_rest_of_sums : Def P w K Wo mg base 2 "rest_of_sums" 2 (Sm m_rest_of_sums)) (D_S__check_length : MDefX P w K Wo mg base 3 C "_check_length" 2 (SmX (m_S__check_length C er))) (D_S___init__ : IDefX P w K Wo mg base 5 "Sums" C 1 (m_S___init__ C er)) : FnOk P w K mg base (L2.CX P w) 7 f fd ["self", "target"] (spX (kkOf P w K) Wo 2 (SmX (m_S_rest_in C er))) :=
  okDX F sc_S_rest_in rfl fun cdv A outer s H E M bs t Q Ex hr T hl h => by
    obtain ⟨self1, target2, rfl, h0⟩ := arg2_of h
    have nd := sc_S_rest_in.nd
    have ev : Ev (Xr P w K mg base ["self", "target"] "Sums.rest_in" s_S_rest_in f cdv A outer s H E) (6) := ⟨rfl, hr, u⟩
    exact fn_run [.d self1, .d target2] (rs_if0 (rt_not (rt_tru (rd_fld KL nF__form (rd_nm 0)))) (rs_raise T ev E_InvalidSums (ra_cons rd_str (ra_cons (rd_neg rd_int) ra_nil))) (
  rs_expr (rd_methX T ev KL D_S__check_length (rd_nm 0) (ra_cons (rd_nm 1) ra_nil)) (
  rs_ret (rd_makeX T ev D_S___init__ (ra_cons (rd_call ev D_rest_of_sums (ra_cons (rd_fld KL nF__form (rd_nm 0)) (ra_cons (rd_fld KL nF__form (rd_nm 1)) ra_nil))) ra_nil))))) h0
/-- Sums.__len__ -/
def m_S___len__ (C : Addr) : List B → W B := arg1 fun self1 => fnW (
  bnd (op1 olen (bnd (ret self1) (fldW C "_form"))) fun x => ret (.rt (.d x)))
theorem ok_S___len__ {Wo : WO} {f : Addr} {fd : FuncData} (F : Fun K "__len__" "Sums.__len__" s_S___len__ f fd) (u : Bb mg) {C : Addr} (KL : Kls K C) (mC : mg "Sums" = some (.ref C)) (nF__form : NoAttr K C "_form") : FnOk P w K mg base CX0 1 f fd ["self"] (spD (kkOf P w K) Wo 1 (Sm (m_S___len__ C))) :=
  okD F sc_S___len__ rfl fun cdv A outer s H E M bs t Q hr hl h => by
    obtain ⟨self1, rfl, h0⟩ := arg1_of h
    have nd := sc_S___len__.nd
    have ev : Ev (Xo P w K mg base ["self"] "Sums.__len__" s_S___len__ f cdv A outer s H E) (0) := ⟨rfl, hr, u⟩
    exact fn_run [.d self1] (rs_ret (rd_len ev (rd_fld KL nF__form (rd_nm 0)))) h0
/-- Sums.worth_in -/
def m_S_worth_in (C : Addr) (er : Str → Addr) (Ex : XW) : List B → W B := arg2 fun self1 target2 => fnW (
  bnd (methW C "rest_in" 2 (m_S_rest_in C er Ex) (ret self1) (dA (ret target2) (ret []))) fun rest3 =>
  bnd (ifW (bnd (op2 ogt (bnd (ret rest3) (lenW C (m_S___len__ C))) (ret (.int 0))) asB) (methW C "rest_in" 2 (m_S_rest_in C er Ex) (ret rest3) (dA (ret target2) (ret []))) (ret .none)) fun x => ret (.rt (.d x)))
theorem ok_S_worth_in {Wo : WO} {f : Addr} {fd : FuncData} (F : Fun K "worth_in" "Sums.worth_in" s_S_worth_in f fd) (u : Bb mg) {C : Addr} {er : Str → Addr} (KL : Kls K C) (mC : mg "Sums" = some (.ref C)) (nF__form : NoAttr K C "_form") (D_S_rest_in : MDefX P w K Wo mg base 7 C "rest_in" 2 (SmX (m_S_rest_in C er))) (D_S___len__ : MDef P w K Wo mg base 1 C "__len__" 1 (Sm (m_S___len__ C))) : FnOk P w K mg base (L2.CX P w) 9 f fd ["self", "target"] (spX (kkOf P w K) Wo 2 (SmX (m_S_worth_in C er))) :=
  okDX F sc_S_worth_in rfl fun cdv A outer s H E M bs t Q Ex hr T hl h => by
    obtain ⟨self1, target2, rfl, h0⟩ := arg2_of h
    have nd := sc_S_worth_in.nd
    have ev : Ev (Xr P w K mg base ["self", "target", "rest"] "Sums.worth_in" s_S_worth_in f cdv A outer s H E) (8) := ⟨rfl, hr, u⟩
    exact fn_run [.d self1, .d target2, .un] (rs_set 2 nd (rd_methX T ev KL D_S_rest_in (rd_nm 0) (ra_cons (rd_nm 1) ra_nil)) fun rest3 =>
  rs_ret (rd_if (rt_gt (rd_lenO ev KL D_S___len__ (rd_nm 2)) rd_int) (rd_methX T ev KL D_S_rest_in (rd_nm 2) (ra_cons (rd_nm 1) ra_nil)) rd_non)) h0
/-- _law_are_refused -/
def m_l_are_refused (C : Addr) (er : Str → Addr) (told : XD → Option PyData) (okR : PyData → PyData) : List B → W B := arg2 fun lot_here1 many2 => fnW (
  bnd (disp (dA (bnd (dA (disp (dA (op2 orepT (disp (dA (ret (.int 0)) (ret [])) fun xs => ret (.tuple xs)) (op2 oadd (ret many2) (ret (.int 1)))) (ret [])) fun xs => ret (.tuple xs)) (ret [])) fun bs => need (bs.length = 1) (mkW C (m_S___init__ C er ExF) bs)) (dA (bnd (dA (disp (ret []) fun xs => ret (.tuple xs)) (ret [])) fun bs => need (bs.length = 1) (mkW C (m_S___init__ C er ExF) bs)) (ret []))) fun xs => ret (.tuple xs)) (two fun wide3 empty4 =>
  bnd (disp (dA (bnd (saidW told okR fun Ex1 => methW C "rest_in" 2 (m_S_rest_in C er Ex1) (ret empty4) (dA (ret wide3) (ret []))) asD) (ret [])) ret) fun told5 =>
  bnd (bnd (saidW told okR fun Ex2 => methW C "worth_in" 2 (m_S_worth_in C er Ex2) (ret empty4) (dA (ret empty4) (ret []))) asD) fun y6 => need ((told5).length < 16777216) (
  bnd (bnd (saidW told okR fun Ex3 => methW C "rest_in" 2 (m_S_rest_in C er Ex3) (bnd (dA (ret lot_here1) (ret [])) fun bs => need (bs.length = 1) (mkW C (m_S___init__ C er Ex3) bs)) (dA (ret wide3) (ret []))) asD) fun y7 => need (((told5 ++ [y6])).length < 16777216) (
  bnd (bnd (saidW told okR fun Ex4 => methW C "worth_in" 2 (m_S_worth_in C er Ex4) (bnd (dA (ret lot_here1) (ret [])) fun bs => need (bs.length = 1) (mkW C (m_S___init__ C er Ex4) bs)) (dA (ret wide3) (ret []))) asD) fun y8 => need ((((told5 ++ [y6]) ++ [y7])).length < 16777216) (
  bnd (bnd (saidW told okR fun Ex5 => methW C "rest_in" 2 (m_S_rest_in C er Ex5) (ret wide3) (dA (bnd (dA (ret lot_here1) (ret [])) fun bs => need (bs.length = 1) (mkW C (m_S___init__ C er Ex5) bs)) (ret []))) asD) fun y9 => need (((((told5 ++ [y6]) ++ [y7]) ++ [y8])).length < 16777216) (
  bnd (bnd (saidW told okR fun Ex6 => methW C "worth_in" 2 (m_S_worth_in C er Ex6) (ret wide3) (dA (bnd (dA (ret lot_here1) (ret [])) fun bs => need (bs.length = 1) (mkW C (m_S___init__ C er Ex6) bs)) (ret []))) asD) fun y10 => need ((((((told5 ++ [y6]) ++ [y7]) ++ [y8]) ++ [y9])).length < 16777216) (
  bnd (op2 oeq (ret (.list (((((told5 ++ [y6]) ++ [y7]) ++ [y8]) ++ [y9]) ++ [y10]))) (froz (catL (froz (mulL (froz (disp (dA (disp (dA (ret (.str "sums")) (dA (ret (.str "empty")) (dA (op1 oneg (ret (.int 1))) (ret [])))) fun xs => ret (.tuple xs)) (ret [])) ret)) (ret (.int 2)))) (froz (mulL (froz (disp (dA (disp (dA (ret (.str "sums")) (dA (ret (.str "length")) (dA (op1 oneg (ret (.int 1))) (ret [])))) fun xs => ret (.tuple xs)) (ret [])) ret)) (ret (.int 4))))))) fun x => ret (.rt (.d x)))))))))
theorem ok_l_are_refused {Wo : WO} {f : Addr} {fd : FuncData} (F : Fun K "_law_are_refused" "_law_are_refused" s__law_are_refused f fd) (u : Bb mg) {C : Addr} {er : Str → Addr} {told : XD → Option PyData} {okR : PyData → PyData} (KL : Kls K C) (mC : mg "Sums" = some (.ref C)) (nF__form : NoAttr K C "_form") (L_l_said : SaidAt P w K Wo mg base 6 "_law_said" told okR) (D_S___init__ : IDefX P w K Wo mg base 5 "Sums" C 1 (m_S___init__ C er)) (D_S_rest_in : MDefX P w K Wo mg base 7 C "rest_in" 2 (SmX (m_S_rest_in C er))) (D_S_worth_in : MDefX P w K Wo mg base 9 C "worth_in" 2 (SmX (m_S_worth_in C er))) {cc PT : Addr} (hc : fd.code = .ref cc) (TB : LamX.TabB base mg cc PT) (hT : (PT, ((envOfC "_law_are_refused" (defScope s__law_are_refused) 0 0 .none).qual ++ "<lambda>")) ∈ Wo.T) (hU : ∀ p ∈ Wo.T, p.1 = PT → p.2 = ((envOfC "_law_are_refused" (defScope s__law_are_refused) 0 0 .none).qual ++ "<lambda>")) : FnOk P w K mg base CX0 13 f fd ["_law_lot_here", "_law_many"] (spD (kkOf P w K) Wo 2 (Sm (m_l_are_refused C er told okR))) :=
  okDc F sc__law_are_refused rfl fun cdv A outer s H E M bs t Q hcd hr hl h => by
    obtain ⟨lot_here1, many2, rfl, h0⟩ := arg2_of h
    have nd := sc__law_are_refused.nd
    have hcode : cdv = .ref cc := hcd.symm.trans hc
    have ev : Ev (Xo P w K mg base ["_law_lot_here", "_law_many", "_law_told", "_law_empty", "_law_wide"] "_law_are_refused" s__law_are_refused f cdv A outer s H E) (12) := ⟨rfl, hr, u⟩
    exact fn_run [.d lot_here1, .d many2, .un, .un, .un] (rs_asg (pg_tup (by rfl) (pgs_cons (pg_name (i := 4) nd rfl (by first | exact Or.inl rfl | exact Or.inr rfl)) (pgs_cons (pg_name (i := 3) nd rfl (by first | exact Or.inl rfl | exact Or.inr rfl)) pgs_nil))) (rd_tup (ra_cons (rd_makeX tkF ev D_S___init__ (ra_cons (rd_tup (ra_cons (rd_repT (rd_tup (ra_cons rd_int ra_nil)) (rd_add (rd_nm 1) rd_int)) ra_nil)) ra_nil)) (ra_cons (rd_makeX tkF ev D_S___init__ (ra_cons (rd_tup ra_nil) ra_nil)) ra_nil))) fun _ => rg_two 4 3 fun wide3 empty4 =>
  rs_setL 2 nd (rl_lst (ra_cons (rd_lamE (k := 10) (L_l_said _ rfl rfl rfl rfl rfl (ev.room.mono (by decide))) ev TB hcode hT hU (by decide) (.same (.same (.same (.same (.same .nil))))) (fun _ _ _ _ _ _ _ _ Ex1 hr1 T1 => (have e1 := ev_lam T1 hr1 u; rd_methX T1 e1 KL D_S_rest_in (rd_nm 3) (ra_cons (rd_nm 4) ra_nil))) (L := LamX.lamS_by (sc := defScope s__law_are_refused) (by decide +kernel))) ra_nil)) fun told5 =>
  rs_app 2 (rd_lamE (k := 10) (L_l_said _ rfl rfl rfl rfl rfl (ev.room.mono (by decide))) ev TB hcode hT hU (by decide) (.same (.same (.un (.same (.same .nil))))) (fun _ _ _ _ _ _ _ _ Ex2 hr2 T2 => (have e2 := ev_lam T2 hr2 u; rd_methX T2 e2 KL D_S_worth_in (rd_nm 3) (ra_cons (rd_nm 3) ra_nil))) (L := LamX.lamS_by (sc := defScope s__law_are_refused) (by decide +kernel))) fun y6 =>
  rs_app 2 (rd_lamE (k := 10) (L_l_said _ rfl rfl rfl rfl rfl (ev.room.mono (by decide))) ev TB hcode hT hU (by decide) (.same (.same (.un (.same (.same .nil))))) (fun _ _ _ _ _ _ _ _ Ex3 hr3 T3 => (have e3 := ev_lam T3 hr3 u; rd_methX T3 e3 KL D_S_rest_in (rd_makeX T3 e3 D_S___init__ (ra_cons (rd_nm 0) ra_nil)) (ra_cons (rd_nm 4) ra_nil))) (L := LamX.lamS_by (sc := defScope s__law_are_refused) (by decide +kernel))) fun y7 =>
  rs_app 2 (rd_lamE (k := 10) (L_l_said _ rfl rfl rfl rfl rfl (ev.room.mono (by decide))) ev TB hcode hT hU (by decide) (.same (.same (.un (.same (.same .nil))))) (fun _ _ _ _ _ _ _ _ Ex4 hr4 T4 => (have e4 := ev_lam T4 hr4 u; rd_methX T4 e4 KL D_S_worth_in (rd_makeX T4 e4 D_S___init__ (ra_cons (rd_nm 0) ra_nil)) (ra_cons (rd_nm 4) ra_nil))) (L := LamX.lamS_by (sc := defScope s__law_are_refused) (by decide +kernel))) fun y8 =>
  rs_app 2 (rd_lamE (k := 10) (L_l_said _ rfl rfl rfl rfl rfl (ev.room.mono (by decide))) ev TB hcode hT hU (by decide) (.same (.same (.un (.same (.same .nil))))) (fun _ _ _ _ _ _ _ _ Ex5 hr5 T5 => (have e5 := ev_lam T5 hr5 u; rd_methX T5 e5 KL D_S_rest_in (rd_nm 4) (ra_cons (rd_makeX T5 e5 D_S___init__ (ra_cons (rd_nm 0) ra_nil)) ra_nil))) (L := LamX.lamS_by (sc := defScope s__law_are_refused) (by decide +kernel))) fun y9 =>
  rs_app 2 (rd_lamE (k := 10) (L_l_said _ rfl rfl rfl rfl rfl (ev.room.mono (by decide))) ev TB hcode hT hU (by decide) (.same (.same (.un (.same (.same .nil))))) (fun _ _ _ _ _ _ _ _ Ex6 hr6 T6 => (have e6 := ev_lam T6 hr6 u; rd_methX T6 e6 KL D_S_worth_in (rd_nm 4) (ra_cons (rd_makeX T6 e6 D_S___init__ (ra_cons (rd_nm 0) ra_nil)) ra_nil))) (L := LamX.lamS_by (sc := defScope s__law_are_refused) (by decide +kernel))) fun y10 =>
  rs_fz 2 (rs_ret (rd_eq ev (rd_nm 2) (rd_l (rl_cat (rd_l (rl_mulL (rd_l (rl_lst (ra_cons (rd_tup (ra_cons rd_str (ra_cons rd_str (ra_cons (rd_neg rd_int) ra_nil)))) ra_nil))) rd_int)) (rd_l (rl_mulL (rd_l (rl_lst (ra_cons (rd_tup (ra_cons rd_str (ra_cons rd_str (ra_cons (rd_neg rd_int) ra_nil)))) ra_nil))) rd_int))))))) h0
/-- Sums.form -/
def m_S_form (C : Addr) : List B → W B := arg1 fun self1 => fnW (
  bnd (bnd (ret self1) (fldW C "_form")) fun x => ret (.rt (.d x)))
theorem ok_S_form {Wo : WO} {f : Addr} {fd : FuncData} (F : Fun K "form" "Sums.form" s_S_form f fd) (u : Bb mg) {C : Addr} (KL : Kls K C) (mC : mg "Sums" = some (.ref C)) (nF__form : NoAttr K C "_form") : FnOk P w K mg base CX0 1 f fd ["self"] (spD (kkOf P w K) Wo 1 (Sm (m_S_form C))) :=
  okD F sc_S_form rfl fun cdv A outer s H E M bs t Q hr hl h => by
    obtain ⟨self1, rfl, h0⟩ := arg1_of h
    have nd := sc_S_form.nd
    have ev : Ev (Xo P w K mg base ["self"] "Sums.form" s_S_form f cdv A outer s H E) (0) := ⟨rfl, hr, u⟩
    exact fn_run [.d self1] (rs_ret (rd_fld KL nF__form (rd_nm 0))) h0
/-- law -/
def m_law (C : Addr) (er : Str → Addr) (told : XD → Option PyData) (okR : PyData → PyData) : W (Out Empty Empty) :=
  bnd (rng1 (ret (.int 10))) fun xs20 => thn (forW (σ := Unit) (fun s1 lap3 =>
  bnd (op2 oadd (ret (.int 1)) (op2 omod (op1 ointB (ret lap3)) (ret (.int 2)))) fun many4 =>
  bnd (bnd (callN 3 m_l_lot (rdA (dA (ret many4) (dA (ret (.int 4)) (ret []))))) asD) fun lot_here5 => bnd (disp (ret []) fun xs => ret (.tuple xs)) fun goal6 => 
  bnd (rng1 (bnd (callN 2 m_l_draw (rdA (dA (ret (.int 4)) (ret [])))) asD)) fun xs19 => thn (forW (σ := PyData) (fun s7 turn9 =>
  bnd (op2 oix (bnd (callN 3 m_l_lot (rdA (dA (ret many4) (dA (ret (.int 1)) (ret []))))) asD) (ret (.int 0))) fun by10 =>
  bnd (op2 ocatT (ret s7) (op1 otup (froz (compW (itT (ret lot_here5)) fun spot12 => bnd (callN 2 m_l_plus (dA (ret spot12) (dA (ret by10) (ret [])))) asD)))) fun goal11 =>
  ret (.nx goal11)) xs19 goal6) fun s8 =>
  bnd (op1 otup (froz (sdQ (slT (op2 ocatT (ret s8) (op2 orepZ (bnd (callN 3 m_l_lot (rdA (dA (ret many4) (dA (ret (.int 3)) (ret []))))) asD) (op1 ointB (op2 ogt (bnd (callN 2 m_l_draw (rdA (dA (ret (.int 3)) (ret [])))) asD) (ret (.int 0)))))) oN (oS (ret (.int 12))))))) fun goal13 =>
  bnd (bnd (dA (ret lot_here5) (ret [])) fun bs => need (bs.length = 1) (mkW C (m_S___init__ C er ExF) bs)) fun a14 => bnd (bnd (dA (ret goal13) (ret [])) fun bs => need (bs.length = 1) (mkW C (m_S___init__ C er ExF) bs)) fun b15 => 
  bnd (bnd (callN 2 m_l_left (dA (ret lot_here5) (dA (ret goal13) (ret [])))) asD) fun rest16 =>
  bnd (bnd (callN 2 m_l_value (dA (ret lot_here5) (dA (ret goal13) (ret [])))) asD) fun due17 =>
  bnd (methW C "worth_in" 2 (m_S_worth_in C er ExF) (ret a14) (dA (ret b15) (ret []))) fun told18 =>
  ifW (orT (bnd (op2 one_ (bnd (methW C "rest_in" 2 (m_S_rest_in C er ExF) (ret a14) (dA (ret b15) (ret []))) (propW C (m_S_form C))) (ret rest16)) asB) (bnd (op2 one_ (ifW (bnd (op1 oisN (ret told18)) asB) (ret .none) (bnd (ret told18) (propW C (m_S_form C)))) (ret due17)) asB)) (upO (bnd (ret (.bool false)) fun x => ret (.rt (.d x)))) (
  ifW (notT (bnd (bnd (callN 2 (m_l_are_refused C er told okR) (dA (ret lot_here5) (dA (ret many4) (ret [])))) asD) asT)) (upO (bnd (ret (.bool false)) fun x => ret (.rt (.d x)))) (
  ifW (orT (andT (bnd (op1 onotN (ret told18)) asB) (notT (bnd (bnd (ret told18) (isiW C)) asT))) (notT (bnd (bnd (methW C "rest_in" 2 (m_S_rest_in C er ExF) (ret a14) (dA (ret b15) (ret []))) (isiW C)) asT))) (upO (bnd (ret (.bool false)) fun x => ret (.rt (.d x)))) (
  ifW (orT (bnd (op2 one_ (bnd (ret a14) (propW C (m_S_form C))) (ret lot_here5)) asB) (bnd (op2 one_ (bnd (ret b15) (propW C (m_S_form C))) (ret goal13)) asB)) (upO (bnd (ret (.bool false)) fun x => ret (.rt (.d x)))) (
  ret (.nx ())))))) xs20 ()) fun s2 =>
  bnd (ret (.bool true)) fun x => ret (.rt (.d x))
theorem ok_law {Wo : WO} (u : Bb mg) {C : Addr} {er : Str → Addr} {told : XD → Option PyData} {okR : PyData → PyData} (KL : Kls K C) (mC : mg "Sums" = some (.ref C)) (nF__form : NoAttr K C "_form") (D_l_left : Def P w K Wo mg base 2 "_law_left" 2 (Sm m_l_left)) (D_l_value : Def P w K Wo mg base 3 "_law_value" 2 (Sm m_l_value)) (D_l_lot : Def P w K Wo mg base 2 "_law_lot" 3 (Sm m_l_lot)) (D_l_draw : Def P w K Wo mg base 1 "_law_draw" 2 (Sm m_l_draw)) (D_l_are_refused : Def P w K Wo mg base 13 "_law_are_refused" 2 (Sm (m_l_are_refused C er told okR))) (D_l_plus : Def P w K Wo mg base 1 "_law_plus" 2 (Sm m_l_plus)) (D_S_worth_in : MDefX P w K Wo mg base 9 C "worth_in" 2 (SmX (m_S_worth_in C er))) (D_S___init__ : IDefX P w K Wo mg base 5 "Sums" C 1 (m_S___init__ C er)) (D_S_form : PDef P w K Wo mg base 1 C "form" (Sm (m_S_form C))) (D_S_rest_in : MDefX P w K Wo mg base 7 C "rest_in" 2 (SmX (m_S_rest_in C er))) {f : Addr} {cdv : Value} {A : Around} {outer : List Env} {s : Shared} {H : Hp} {E : XK} {M : Md (kkOf P w K) Wo} (hr : Room 13 (Xo P w K mg base ["_law_script", "_law_source_here", "_law_lap", "_law_many", "_law_lot_here", "_law_goal", "_law_turn", "_law_by", "_law_a", "_law_b", "_law_rest", "_law_due", "_law_told", "_law_spot"] "law" s_law f cdv A outer s H E).A) (hg : (Xo P w K mg base ["_law_script", "_law_source_here", "_law_lap", "_law_many", "_law_lot_here", "_law_goal", "_law_turn", "_law_by", "_law_a", "_law_b", "_law_rest", "_law_due", "_law_told", "_law_spot"] "law" s_law f cdv A outer s H E).A.guards = some []) : RS (X := Xo P w K mg base ["_law_script", "_law_source_here", "_law_lap", "_law_many", "_law_lot_here", "_law_goal", "_law_turn", "_law_by", "_law_a", "_law_b", "_law_rest", "_law_due", "_law_told", "_law_spot"] "law" s_law f cdv A outer s H E) M ((defBody s_law).drop 1) [.un, .rd, .un, .un, .un, .un, .un, .un, .un, .un, .un, .un, .un, .un] nul nul (m_law C er told okR) := by
  have nd := sc_law.nd
  have ev : Ev (Xo P w K mg base ["_law_script", "_law_source_here", "_law_lap", "_law_many", "_law_lot_here", "_law_goal", "_law_turn", "_law_by", "_law_a", "_law_b", "_law_rest", "_law_due", "_law_told", "_law_spot"] "law" s_law f cdv A outer s H E) 13 := ⟨rfl, hr, u⟩
  exact rs_for (eme := fun s1 : Unit => [.un, .rd, .un, .un, .un, .un, .un, .un, .un, .un, .un, .un, .un, .un]) () ev PassesOwn.never (.same (.same (.same (.same (.same (.same (.same (.same (.same (.same (.same (.same (.same (.same .nil)))))))))))))) (pg_name (i := 2) nd rfl (by first | exact Or.inl rfl | exact Or.inr rfl)) (ri_r1 ev rd_int) (fun s1 lap3 => rg_one 2 (
  rs_set 3 nd (rd_add rd_int (rd_mod (rd_intB ev (rd_nm 2)) rd_int)) fun many4 =>
  rs_par 4 5 ev nd (rd_call ev D_l_lot (ra_rd 1 (ra_cons (rd_nm 3) (ra_cons rd_int ra_nil)))) (rd_tup ra_nil) fun lot_here5 goal6 =>
  rs_for (eme := fun s7 : PyData => [.un, .rd, .d lap3, .d many4, .d lot_here5, .d s7, .un, .un, .un, .un, .un, .un, .un, .un]) goal6 ev PassesOwn.never (.same (.same (.same (.same (.same (.same (.same (.same (.same (.same (.same (.same (.same (.same .nil)))))))))))))) (pg_name (i := 6) nd rfl (by first | exact Or.inl rfl | exact Or.inr rfl)) (ri_r1 ev (rd_call ev D_l_draw (ra_rd 1 (ra_cons rd_int ra_nil)))) (fun s7 turn9 => rg_one 6 (
  rs_set 7 nd (rd_ix (rd_call ev D_l_lot (ra_rd 1 (ra_cons (rd_nm 3) (ra_cons rd_int ra_nil)))) rd_int) fun by10 =>
  rs_set 5 nd (rd_catT (rd_nm 5) (rd_tupc ev (rd_l (rl_comp (own := [("_law_spot", 13)]) (gt := gName 13) ev nd (blkOk_by (N := ["_law_script", "_law_source_here", "_law_lap", "_law_many", "_law_lot_here", "_law_goal", "_law_turn", "_law_by", "_law_a", "_law_b", "_law_rest", "_law_due", "_law_told", "_law_spot"]) (sc := defScope s_law) (by decide +kernel)) wipes1 (fun _ _ _ _ _ => pg_name (i := 13) nd rfl (by first | exact Or.inl rfl | exact Or.inr rfl)) (ri_T (rd_nm 4)) (fun spot12 => rge_one 13 (fun _ _ _ _ _ => rd_call ev.blk D_l_plus (ra_cons (rd_nm 13) (ra_cons (rd_nm 7) ra_nil)))))))) fun goal11 =>
  rs_nil (s := goal11) (.same (.same (.same (.same (.same (.same (.un (.un (.same (.same (.same (.same (.same (.same .nil)))))))))))))))) fun s8 =>
  rs_set 5 nd (rd_tupc ev (rd_l (rl_sortedSetQ ev (rd_slT (rd_catT (rd_nm 5) (rd_repZ (rd_call ev D_l_lot (ra_rd 1 (ra_cons (rd_nm 3) (ra_cons rd_int ra_nil)))) (rd_intB ev (rd_gt (rd_call ev D_l_draw (ra_rd 1 (ra_cons rd_int ra_nil))) rd_int)))) ro_none (ro_some rd_int))))) fun goal13 =>
  rs_par 8 9 ev nd (rd_makeX tkF ev D_S___init__ (ra_cons (rd_nm 4) ra_nil)) (rd_makeX tkF ev D_S___init__ (ra_cons (rd_nm 5) ra_nil)) fun a14 b15 =>
  rs_set 10 nd (rd_call ev D_l_left (ra_cons (rd_nm 4) (ra_cons (rd_nm 5) ra_nil))) fun rest16 =>
  rs_set 11 nd (rd_call ev D_l_value (ra_cons (rd_nm 4) (ra_cons (rd_nm 5) ra_nil))) fun due17 =>
  rs_set 12 nd (rd_methX tkF ev KL D_S_worth_in (rd_nm 8) (ra_cons (rd_nm 9) ra_nil)) fun told18 =>
  rs_if0 (rt_v (rv_or (rt_ne ev (rd_prop ev KL D_S_form (rd_methX tkF ev KL D_S_rest_in (rd_nm 8) (ra_cons (rd_nm 9) ra_nil))) (rd_nm 10)) (rv_one (rt_ne ev (rd_if (rt_isN (rd_nm 12)) rd_non (rd_prop ev KL D_S_form (rd_nm 12))) (rd_nm 11))))) (rs_ret rd_bl) (
  rs_if0 (rt_not (rt_tru (rd_call ev D_l_are_refused (ra_cons (rd_nm 4) (ra_cons (rd_nm 3) ra_nil))))) (rs_ret rd_bl) (
  rs_if0 (rt_v (rv_or (rt_v (rv_and (rt_notN (rd_nm 12)) (rv_one (rt_not (rt_tru (rd_isiO ev KL (rd_nm 12) mC)))))) (rv_one (rt_not (rt_tru (rd_isiO ev KL (rd_methX tkF ev KL D_S_rest_in (rd_nm 8) (ra_cons (rd_nm 9) ra_nil)) mC)))))) (rs_ret rd_bl) (
  rs_if0 (rt_v (rv_or (rt_ne ev (rd_prop ev KL D_S_form (rd_nm 8)) (rd_nm 4)) (rv_one (rt_ne ev (rd_prop ev KL D_S_form (rd_nm 9)) (rd_nm 5))))) (rs_ret rd_bl) (
  rs_nil (s := ()) (.same (.same (.un (.un (.un (.un (.same (.same (.un (.un (.un (.un (.un (.same .nil)))))))))))))))))))) fun s2 =>
  rs_ret rd_bl
end
end K36
end
section
set_option maxRecDepth 100000
set_option maxHeartbeats 4000000
namespace K36
open PySem PySem.Spec PyProof.Rows L2 Dl Dw Dz Dy Dx
open Dw (ret)
/-! ### application -/
section
variable {t : Rs} {α τ : Type}
theorem shInt (i : Int) : SeqAt.shaped (.int i) = true := id rfl
theorem shBool (i : Bool) : SeqAt.shaped (.bool i) = true := id rfl
theorem eqvStr (a b : Str) : PyData.eqv (.str a) (.str b) = (a == b) := by simp only [PyData.eqv]
theorem eqvInt (a b : Int) : PyData.eqv (.int a) (.int b) = (a == b) := by simp only [PyData.eqv]
theorem eqvBool (a b : Bool) : PyData.eqv (.bool a) (.bool b) = (a == b) := by simp only [PyData.eqv]
theorem isI_i (i : Int) : (isiD "int" (.int i)) = true := by simp [isiD, tyD]
theorem isB_i (i : Int) : (isiD "bool" (.int i)) = false := by simp [isiD, tyD]
theorem isT_t (xs : List PyData) : (isiD "tuple" (.tuple xs)) = true := by simp [isiD, tyD]
theorem ogt_i (i j : Int) (P : PyData → Rs → Prop) : ogt (.int i) (.int j) t P = P (.bool (decide (i > j))) t := id rfl
theorem oisN_t (x : List PyData) (P : PyData → Rs → Prop) : oisN (.tuple x) t P = P (.bool false) t := id rfl
theorem oisN_n (P : PyData → Rs → Prop) : oisN .none t P = P (.bool true) t := id rfl
theorem onotN_n (P : PyData → Rs → Prop) : onotN .none t P = P (.bool false) t := id rfl
theorem asL_t (xs : List PyData) (P : List PyData → Rs → Prop) : asL (.tuple xs) t P = P xs t := id rfl
theorem asL_l (xs : List PyData) (P : List PyData → Rs → Prop) : asL (.list xs) t P = P xs t := id rfl
theorem zipW_ap (f g : W PyData) (P : List PyData → Rs → Prop) : zipW f g t P = f t fun x t1 => g t1 fun y t2 => (match x, y with | .tuple xs, .tuple ys => ret (zipD xs ys) | _, _ => bad) t2 P := id rfl
theorem comp2_ap (it : W (List PyData)) (it2 : PyData → W (List PyData)) (f : PyData → PyData → W PyData) (P : List PyData → Rs → Prop) : comp2W it it2 f t P = it t fun xs t1 => flatW it2 f xs [] t1 P := id rfl
theorem methW_ap (C : Addr) (m : Str) (n : Nat) (h : List B → W B) (f : W PyData) (af : W (List B)) (P : PyData → Rs → Prop) : methW C m n h f af t P = f t fun x t1 => okM C m x ∧ af t1 fun bs t2 => bs.length + 1 = n ∧ h (.d x :: bs) t2 fun b t3 => asD b t3 P := id rfl
theorem opW_ap (C : Addr) (h : List B → W B) (x y : PyData) (P : PyData → Rs → Prop) : opW C h x y t P = ((isC C x ∧ isC C y) ∧ h [.d x, .d y] t fun b t1 => asD b t1 P) := id rfl
theorem neW_ap (C : Addr) (h : List B → W B) (x y : PyData) (P : PyData → Rs → Prop) : neW C h x y t P = ((isC C x ∧ isC C y) ∧ h [.d x, .d y] t fun b t1 => asD b t1 fun z t2 => onot z t2 P) := id rfl
theorem propW_ap (C : Addr) (h : List B → W B) (x : PyData) (P : PyData → Rs → Prop) : propW C h x t P = (isC C x ∧ h [.d x] t fun b t1 => asD b t1 P) := id rfl
theorem lenW_ap (C : Addr) (h : List B → W B) (x : PyData) (P : PyData → Rs → Prop) : lenW C h x t P = (isC C x ∧ h [.d x] t fun b t1 => asD b t1 fun y t2 => (match y with | PyData.int i => need (0 ≤ i ∧ i < 2 ^ 63) (Dw.ret (PyData.int i)) | _ => (bad : W PyData)) t2 P) := id rfl
theorem isiW_ap (C : Addr) (x : PyData) (P : PyData → Rs → Prop) : isiW C x t P = (isC C x ∧ P (.bool true) t) := id rfl
theorem mkW_ap (C : Addr) (i : List B → W (List (PyData × PyData))) (bs : List B) (P : PyData → Rs → Prop) : mkW C i bs t P = i bs t fun ds t1 => P (objD C ds) t1 := id rfl
theorem fnI_ap (m : W (Out (List (PyData × PyData)) Empty)) (P : List (PyData × PyData) → Rs → Prop) : fnI m t P = m t fun o t1 => (match o with | .nx ds => Dw.ret ds | .rt b => (match b with | .d _ => bad | _ => bad) | .ct s => nomatch s | .bk s => nomatch s) t1 P := id rfl
theorem argI1_ap (k : PyData → W (List (PyData × PyData))) (a : PyData) : argI1 k [.d a] = k a := id rfl
end
local macro_rules | `(tactic| walk_at "w") => `(tactic| try simp only [bnd_ap, ret_ap, need_ap, op1_ap, op2_ap, dA_ap, rdA_ap, callN_ap, asD_d, asD_own, asO_own, asB_b, asT_ap, froz_ap, disp_ap, ifW_ap, andT_ap, orT_ap, notT_ap, andW_b, orW_b, thn_ap, joi_ap, upO_ap, fnW_ap, fnU_ap, compW_ap, compO_ap, optW_ap, itL_ap, itT_ap, rng1_ap, rng2_ap, slT_ap, slL_ap, oN_ap, oS_ap, consA_ap, catL_ap, two_ap, three_ap, twoL_ap, threeL_ap, oadd_i, osub_i, omul_i, oneg_i, olt_i, ole_i, ogt_i, onot_b, oisi_ap, otup_l, otup_t, oint_i, olen_t, olen_l, arg0_ap, arg1_ap, arg2_ap, arg3_ap, arg4_ap, arg5_ap, argR0_ap, argR1_ap, argR2_ap, argR3_ap, argR4_ap, dsOf, Option.map_some, Option.map_none, List.length_cons, List.length_nil, Nat.reduceAdd, Nat.reduceLeDiff, true_and, and_true, cond_t, cond_f, Bool.not_true, Bool.not_false, truD, oeq_ap, one_ap, eqvStr, eqvInt, eqvBool, shInt, shBool, and_self, isI_i, isB_i, isT_t, strOk, zipW_ap, asL_t, asL_l, oisN_t, oisN_n, onotN_n, asB_b, decide_true, decide_false, beq_self_eq_true, Bool.or_false, Bool.false_or, Bool.and_true, Bool.true_and, noD, comp2_ap, methW_ap, opW_ap, neW_ap, propW_ap, lenW_ap, isiW_ap, mkW_ap, fnI_ap, argI1_ap])
section
variable {t : Rs} {α : Type}
theorem oall_bs (bs : List Bool) (P : PyData → Rs → Prop) : oall (.list (bs.map .bool)) t P = P (.bool (bs.all id)) t := by
  show (match boolsOf (bs.map PyData.bool) with | some bs => ret (PyData.bool (bs.all id)) | none => bad) t P = _
  rw [boolsOf_map]
  rfl
theorem oany_bs (bs : List Bool) (P : PyData → Rs → Prop) : oany (.list (bs.map .bool)) t P = P (.bool (bs.any id)) t := by
  show (match boolsOf (bs.map PyData.bool) with | some bs => ret (PyData.bool (bs.any id)) | none => bad) t P = _
  rw [boolsOf_map]
  rfl
theorem map_on {β : Type} {f : PyData → W PyData} {E h : β → PyData} : ∀ {fs : List β} {P : List PyData → Rs → Prop}, (∀ x ∈ fs, ∀ Q : PyData → Rs → Prop, Q (h x) t → f (E x) t Q) → P (fs.map h) t → mapW f (fs.map E) t P
  | [], P, _, q => q
  | x :: r, P, h1, q => h1 x (List.mem_cons_self ..) _ (map_on (fun y hy => h1 y (List.mem_cons_of_mem _ hy)) q)
theorem fil_on {β : Type} {f : PyData → W (Option PyData)} {E : β → PyData} {h : β → PyData} {c : β → Bool} : ∀ {fs : List β} {P : List PyData → Rs → Prop}, (∀ x ∈ fs, ∀ Q : Option PyData → Rs → Prop, Q (if c x = true then some (h x) else none) t → f (E x) t Q) → P ((fs.filter c).map h) t → filO f (fs.map E) t P
  | [], P, _, q => q
  | x :: r, P, h1, q => h1 x (List.mem_cons_self ..) _ (by
    by_cases hc : c x = true
    · rw [if_pos hc]
      rw [List.filter_cons_of_pos hc] at q
      exact fil_on (P := fun ys t => P (h x :: ys) t) (fun y hy => h1 y (List.mem_cons_of_mem _ hy)) q
    · rw [if_neg hc]
      rw [List.filter_cons_of_neg hc] at q
      exact fil_on (fun y hy => h1 y (List.mem_cons_of_mem _ hy)) q)
theorem cond_ap {b : Bool} {f g : W α} {P : α → Rs → Prop} (h1 : b = true → f t P) (h2 : b = false → g t P) : (bif b then f else g) t P := by
  cases b
  · exact h2 rfl
  · exact h1 rfl
end
/-! ### vectors -/
abbrev iT (r : List Int) : PyData := .tuple (r.map .int)
def vad (a b : List Int) : List Int := List.zipWith (· + ·) a b
def vsb (a b : List Int) : List Int := List.zipWith (· - ·) a b
section
variable {m : Nat} {a b c : List Int}
theorem vad_len (ha : a.length = m) (hb : b.length = m) : (vad a b).length = m := by simp [vad, ha, hb]
theorem vsb_len (ha : a.length = m) (hb : b.length = m) : (vsb a b).length = m := by simp [vsb, ha, hb]
theorem vad_comm (a b : List Int) : vad a b = vad b a := by
  unfold vad
  rw [List.zipWith_comm]
  congr 1
  funext x y
  omega
theorem vad_assoc : ∀ a b c : List Int, vad (vad a b) c = vad a (vad b c)
  | [], _, _ => by simp [vad]
  | _ :: _, [], _ => by simp [vad]
  | _ :: _, _ :: _, [] => by simp [vad]
  | x :: a, y :: b, z :: c => by
    have := vad_assoc a b c
    simp only [vad, List.zipWith_cons_cons] at this ⊢
    rw [this, Int.add_assoc]
theorem vad_vsb : ∀ {a b : List Int}, a.length = b.length → vad (vsb a b) b = a
  | [], [], _ => rfl
  | x :: a, y :: b, h => by
    have := vad_vsb (a := a) (b := b) (by simpa using h)
    simp only [vad, vsb, List.zipWith_cons_cons] at this ⊢
    rw [this, Int.sub_add_cancel]
  | [], _ :: _, h => by cases h
  | _ :: _, [], h => by cases h
theorem vsb_vad : ∀ {a b : List Int}, a.length = b.length → vsb (vad a b) b = a
  | [], [], _ => rfl
  | x :: a, y :: b, h => by
    have := vsb_vad (a := a) (b := b) (by simpa using h)
    simp only [vad, vsb, List.zipWith_cons_cons] at this ⊢
    rw [this, Int.add_sub_cancel]
  | [], _ :: _, h => by cases h
  | _ :: _, [], h => by cases h
theorem vad_inj (h : a.length = b.length) (h2 : c.length = b.length) (e : vad a b = vad c b) : a = c := by
  rw [← vsb_vad h, e, vsb_vad h2]
end
/-! ### sums of the program -/
section
variable {t : Rs} {P : B → Rs → Prop}
def sumc (m : Nat) (R : List (List Int)) : List Int := (List.range m).map fun i => (R.map fun r => r.getD i 0).sum
theorem getD_int (r : List Int) (i : Nat) (h : i < r.length) : (r.map PyData.int).getD i .none = .int (r.getD i 0) := by
  simp [List.getD, List.getElem?_map, List.getElem?_eq_getElem h]
theorem p_added0 {m : Nat} {r : List Int} {rs : List (List Int)} (hr : r.length = m) (hrs : ∀ q ∈ rs, q.length = m) (hm : m ≤ 1000) (few : rs.length ≤ 8) (q : P (.d (iT (sumc m (r :: rs)))) t) :
    m_added (.d (iT r) :: rs.map fun q => .d (iT q)) t P := by
  have e1 : dsOf ((B.d (iT r) :: rs.map fun q => B.d (iT q)).drop 1) = some (rs.map iT) := by
    show dsOf (rs.map fun q => B.d (iT q)) = _
    have : (rs.map fun q => B.d (iT q)) = (rs.map iT).map B.d := by rw [List.map_map]; rfl
    rw [this, dsOf_map]
  unfold m_added starArg
  simp only [bnd_ap, e1, ret_ap, need_ap]
  refine ⟨⟨by simp; omega, by simp⟩, ?_⟩
  show Dw.arg2 _ [.d (iT r), .d (.tuple (rs.map iT))] t P
  walk_at "w"
  unfold zipS
  walk_at "w"
  have e2 : rowsOf (rs.map iT) = some (rs.map fun q => q.map PyData.int) := by
    have : rs.map iT = (rs.map fun q => q.map PyData.int).map PyData.tuple := by rw [List.map_map]; rfl
    rw [this, rowsOf_map]
  simp only [e2, need_ap, ret_ap]
  refine ⟨⟨by simpa using few, fun x hx => ?_⟩, ?_⟩
  · obtain ⟨y, hy, rfl⟩ := List.mem_map.mp hx
    simp [hrs y hy, hr]
  refine ⟨by simp [cols, hr]; omega, ?_⟩
  have e3 : cols (r.map PyData.int :: rs.map fun q => q.map PyData.int) (r.map PyData.int).length = (List.range m).map fun i => .tuple (((r :: rs).map fun r => r.getD i 0).map PyData.int) := by
    unfold cols
    rw [List.length_map, hr]
    refine List.map_congr_left fun i hi => ?_
    have hi := List.mem_range.mp hi
    congr 1
    rw [List.map_cons, List.map_cons, List.map_cons, getD_int r i (by omega), List.map_map, List.map_map]
    congr 1
    refine List.map_congr_left fun y hy => ?_
    exact getD_int y i (by rw [hrs y hy]; omega)
  rw [e3]
  refine map_fun (g := fun x => match x with | .tuple xs => (match intsOf xs with | some ns => .int ns.sum | none => .none) | _ => .none) (fun x hx Q hQ => ?_) ?_
  · obtain ⟨i, hi, rfl⟩ := List.mem_map.mp hx
    simp only [intsOf_map] at hQ
    walk_at "w"
    unfold osumT
    simp only [intsOf_map, ret_ap]
    exact hQ
  · walk_at "w"
    have e4 : ((List.range m).map fun i => (PyData.tuple (((r :: rs).map fun r => r.getD i 0).map PyData.int))).map (fun x => match x with | .tuple xs => (match intsOf xs with | some ns => PyData.int ns.sum | none => .none) | _ => .none) = (sumc m (r :: rs)).map PyData.int := by
      unfold sumc
      rw [List.map_map, List.map_map]
      refine List.map_congr_left fun i _ => ?_
      simp only [Function.comp, intsOf_map]
    rw [e4]
    exact q
theorem sumc2 {m : Nat} {a b : List Int} (ha : a.length = m) (hb : b.length = m) : sumc m [a, b] = vad a b := by
  unfold sumc vad
  refine List.ext_getElem (by simp [ha, hb]) fun i h1 h2 => ?_
  have hi : i < m := by simpa using h1
  simp [List.getD, List.getElem?_eq_getElem (by omega : i < a.length), List.getElem?_eq_getElem (by omega : i < b.length)]
theorem p_added {m : Nat} {a b : List Int} (ha : a.length = m) (hb : b.length = m) (hm : m ≤ 1000) (q : P (.d (iT (vad a b))) t) : m_added [.d (iT a), .d (iT b)] t P := by
  refine p_added0 (rs := [b]) ha (by simpa using hb) hm (by simp) ?_
  rw [sumc2 ha hb]
  exact q
theorem p_subtracted {m : Nat} {a b : List Int} (ha : a.length = m) (hb : b.length = m) (hm : m ≤ 1000) (q : P (.d (iT (vsb a b))) t) : m_subtracted [.d (iT a), .d (iT b)] t P := by
  unfold m_subtracted
  walk_at "w"
  have e : zipD (a.map PyData.int) (b.map PyData.int) = (List.range m).map fun i => .tuple [.int (a.getD i 0), .int (b.getD i 0)] := by
    unfold zipD
    rw [List.length_map, List.length_map, ha, hb, Nat.min_self]
    refine List.map_congr_left fun i hi => ?_
    have hi := List.mem_range.mp hi
    rw [getD_int a i (by omega), getD_int b i (by omega)]
  rw [e]
  refine ⟨by simp; omega, ?_⟩
  refine map_on (h := fun i => .int (a.getD i 0 - b.getD i 0)) (fun i hi Q hQ => ?_) ?_
  · walk_at "w"
    exact hQ
  · walk_at "w"
    have e2 : ((List.range m).map fun i => PyData.int (a.getD i 0 - b.getD i 0)) = (vsb a b).map PyData.int := by
      have : (List.range m).map (fun i => PyData.int (a.getD i 0 - b.getD i 0)) = ((List.range m).map fun i => a.getD i 0 - b.getD i 0).map PyData.int := by rw [List.map_map]; rfl
      rw [this]
      congr 1
      unfold vsb
      refine List.ext_getElem (by simp [ha, hb]) fun i h1 h2 => ?_
      have hi : i < m := by simpa using h1
      simp [List.getD, List.getElem?_eq_getElem (by omega : i < a.length), List.getElem?_eq_getElem (by omega : i < b.length)]
    rw [e2]
    exact q
theorem eqv_ints : ∀ (a b : List Int), PyData.eqvAll (a.map .int) (b.map .int) = decide (a = b)
  | [], [] => by simp [PyData.eqvAll]
  | [], _ :: _ => by simp [PyData.eqvAll]
  | _ :: _, [] => by simp [PyData.eqvAll]
  | x :: a, y :: b => by
    simp only [List.map_cons, PyData.eqvAll, PyData.eqv, eqv_ints a b]
    by_cases h1 : x = y <;> by_cases h2 : a = b <;> simp [h1, h2]
theorem eqvT (a b : List Int) : PyData.eqv (iT a) (iT b) = decide (a = b) := by
  show PyData.eqv (.tuple _) (.tuple _) = _
  rw [PyData.eqv, eqv_ints]
/-! ### kinds -/
theorem p_int_i {i : Int} (q : P (.d (.bool true)) t) : m_is_integer [.d (.int i)] t P := by
  unfold m_is_integer
  walk_at "w"
  exact q
theorem all_tt {β : Type} (st : List β) (P : PyData → Rs → Prop) (q : P (.bool true) t) : oall (.list (st.map fun _ => PyData.bool true)) t P := by
  have e : (st.map fun _ => PyData.bool true) = (st.map fun _ => true).map PyData.bool := by rw [List.map_map]; rfl
  rw [e, oall_bs]
  simp only [List.all_map]
  have e2 : (st.all (id ∘ fun _ => true)) = true := by simp
  rw [e2]
  exact q
theorem p_is_integers {st : List Int} (h : st.length ≤ 1000) (q : P (.d (.bool true)) t) : m_is_integers [.d (iT st)] t P := by
  unfold m_is_integers
  walk_at "w"
  refine ⟨by simp; omega, ?_⟩
  refine map_on (h := fun _ => .bool true) (fun x hx Q hQ => ?_) ?_
  · walk_at "w"
    refine p_int_i ?_
    walk_at "w"
    exact hQ
  · walk_at "w"
    refine all_tt _ _ ?_
    exact q
theorem p_long {st : List Int} (h : st.length ≤ 1000) (h0 : st ≠ []) (q : P (.d (.bool true)) t) : m__is_long_sum [.d (iT st)] t P := by
  unfold m__is_long_sum
  walk_at "w"
  refine p_is_integers h ?_
  walk_at "w"
  refine ⟨⟨shaped_intsT _, shaped_intsT []⟩, ?_⟩
  have e : PyData.eqv (iT st) (iT []) = false := by rw [eqvT]; exact decide_eq_false h0
  rw [show (PyData.tuple []) = iT [] from rfl, e]
  exact q
theorem p_longs {L : List (List Int)} (h : ∀ r ∈ L, r.length ≤ 1000 ∧ r ≠ []) (few : L.length < 64) (q : P (.d (.bool true)) t) : m__are_long_sums [.d (.tuple (L.map iT))] t P := by
  unfold m__are_long_sums
  walk_at "w"
  refine ⟨by simp; omega, ?_⟩
  refine map_on (h := fun _ => .bool true) (fun x hx Q hQ => ?_) ?_
  · walk_at "w"
    refine p_long (h x hx).1 (h x hx).2 ?_
    walk_at "w"
    exact hQ
  · walk_at "w"
    refine all_tt _ _ ?_
    exact q
end
end K36
end
section
set_option maxRecDepth 100000
set_option maxHeartbeats 4000000
namespace K36
open PySem PySem.Spec PyProof.Rows L2 Dl Dw Dz Dy Dx
/-! ### what the law's catcher tells of an exception -/
/-- what is told of an InvalidSums -/
def told (er : Str → Addr) (xd : XD) : Option PyData := if xd.C = er "InvalidSums" then (match lookF "word" xd.fs, lookF "at" xd.fs with
  | some w, some a => some (.tuple [.str "sums", w, a])
  | _, _ => none) else none
def okR (v : PyData) : PyData := .tuple [.str "result", v]
/-- one class among the others -/
structure Cls1 (K : PySem.W.Frag) (er : Str → Addr) (C : Addr) : Prop where
  x : ExcC K C
  f : XfC K C
  w : PySem.W.findIn K (.ref C) "word" = some none
  a : PySem.W.findIn K (.ref C) "at" = some none
  iP : PySem.W.kitOne K (.ref C) (.ref (er "PaperError")) = some false
  iS : PySem.W.kitOne K (.ref C) (.ref (er "StoreError")) = some true
  iV : PySem.W.kitOne K (.ref C) (.ref (er "ServiceError")) = some false
  iT : PySem.W.kitOne K (.ref C) (.ref (er "TextError")) = some false
  i6 : PySem.W.kitOne K (.ref C) (.ref (er "InvalidPaper")) = some false
  i1 : PySem.W.kitOne K (.ref C) (.ref (er "InvalidSums")) = some true
  i2 : PySem.W.kitOne K (.ref C) (.ref (er "InvalidFamily")) = some false
  i3 : PySem.W.kitOne K (.ref C) (.ref (er "UnknownHand")) = some false
  i4 : PySem.W.kitOne K (.ref C) (.ref (er "UnfitRule")) = some false
  i5 : PySem.W.kitOne K (.ref C) (.ref (er "UnknownDeed")) = some false
  ex : PySem.W.exmOne K (.ref C) (.ref (er "RightError")) = some true
structure Nam (mg : Str → Option Value) (er : Str → Addr) : Prop where
  r : mg "RightError" = some (.ref (er "RightError"))
  p : mg "PaperError" = some (.ref (er "PaperError"))
  s : mg "StoreError" = some (.ref (er "StoreError"))
  v : mg "ServiceError" = some (.ref (er "ServiceError"))
  t : mg "TextError" = some (.ref (er "TextError"))
  ip : mg "InvalidPaper" = some (.ref (er "InvalidPaper"))
  n1 : mg "InvalidSums" = some (.ref (er "InvalidSums"))
  n2 : mg "InvalidFamily" = some (.ref (er "InvalidFamily"))
  n3 : mg "UnknownHand" = some (.ref (er "UnknownHand"))
  n4 : mg "UnfitRule" = some (.ref (er "UnfitRule"))
  n5 : mg "UnknownDeed" = some (.ref (er "UnknownDeed"))
def qOf (C : Addr) (b : Bool) (D : Addr) : Option Bool := if D = C then some b else none
theorem qOf_ex {K : PySem.W.Frag} {C c : Addr} {b : Bool} (x : ExcC K C) (i : PySem.W.kitOne K (.ref C) (.ref c) = some b) : ∀ D b', qOf C b D = some b' → ExcC K D ∧ PySem.W.kitOne K (.ref D) (.ref c) = some b' := fun D b' e => by
  unfold qOf at e
  by_cases h : D = C
  · rw [if_pos h] at e
    cases e
    rw [h]
    exact ⟨x, i⟩
  · rw [if_neg h] at e
    cases e
theorem qOf_self (C : Addr) (b : Bool) : qOf C b C = some b := if_pos rfl
section
variable {P : Program} {w : World} {K : PySem.W.Frag} {mg : Str → Option Value} {base : Heap} {er : Str → Addr}
def S_err (er : Str → Addr) : List B → W B := fun bs t Q => ∃ ds v, bs = [.d (excD (er "InvalidSums") ds)] ∧ told er ⟨er "InvalidSums", ds⟩ = some v ∧ Q (.d v) t
theorem told_inv {ds : List (PyData × PyData)} {v : PyData} (h : told er ⟨er "InvalidSums", ds⟩ = some v) : ∃ w a, lookF "word" ds = some w ∧ lookF "at" ds = some a ∧ v = .tuple [.str "sums", w, a] := by
  unfold told at h
  rw [if_pos rfl] at h
  dsimp only at h
  split at h
  · rename_i w a h1 h2
    exact ⟨w, a, h1, h2, (Option.some.inj h).symm⟩
  · cases h
theorem excD_inj {C D : Addr} {ds es : List (PyData × PyData)} (e : excD C ds = excD D es) : C = D ∧ ds = es := by
  unfold excD at e
  injection e with e
  injection e with e1 e2
  injection e1 with e1 _
  injection e1 with e1
  exact ⟨Int.ofNat.inj e1, e2⟩
theorem isX_ap {C : Addr} {b : Bool} {ds : List (PyData × PyData)} {t : Rs} (P : PyData → Rs → Prop) : isXW (qOf C b) (excD C ds) t P = P (.bool b) t := propext ⟨fun ⟨D, es, k, e, h, p⟩ => by
  obtain ⟨rfl, rfl⟩ := excD_inj e
  rw [qOf_self] at h
  cases h
  exact p, fun p => ⟨C, ds, b, rfl, qOf_self C b, p⟩⟩
theorem fldX_ap {C : Addr} {n : Str} {ds : List (PyData × PyData)} {d : PyData} {t : Rs} (h : lookF n ds = some d) (P : PyData → Rs → Prop) : fldXW (fun D => D = C) n (excD C ds) t P = P d t := propext ⟨fun ⟨D, es, k, e, h1, h2, p⟩ => by
  obtain ⟨rfl, rfl⟩ := excD_inj e
  rw [h] at h2
  cases h2
  exact p, fun p => ⟨C, ds, d, rfl, rfl, h, p⟩⟩
theorem oix_l {xs : List PyData} {i : Int} {z : PyData} {t : Rs} (h : atI xs i = some z) (P : PyData → Rs → Prop) : oix (.list xs) (.int i) t P = P z t := by
  show (match atI xs i with | some z => Dw.ret z | none => (bad : W PyData)) t P = _
  rw [h]
  rfl
local macro_rules | `(tactic| walk_at "w") => `(tactic| try simp only [bnd_ap, ret_ap, need_ap, op1_ap, op2_ap, dA_ap, rdA_ap, callN_ap, asD_d, asD_own, asO_own, asB_b, asT_ap, froz_ap, disp_ap, ifW_ap, andT_ap, orT_ap, notT_ap, andW_b, orW_b, thn_ap, joi_ap, upO_ap, fnW_ap, fnU_ap, compW_ap, compO_ap, optW_ap, itL_ap, itT_ap, rng1_ap, rng2_ap, slT_ap, slL_ap, oN_ap, oS_ap, consA_ap, catL_ap, two_ap, three_ap, twoL_ap, threeL_ap, oadd_i, osub_i, omul_i, oneg_i, olt_i, ole_i, ogt_i, onot_b, oisi_ap, otup_l, otup_t, oint_i, olen_t, olen_l, arg0_ap, arg1_ap, arg2_ap, arg3_ap, arg4_ap, arg5_ap, argR0_ap, argR1_ap, argR2_ap, argR3_ap, argR4_ap, dsOf, Option.map_some, Option.map_none, List.length_cons, List.length_nil, Nat.reduceAdd, Nat.reduceLeDiff, true_and, and_true, cond_t, cond_f, Bool.not_true, Bool.not_false, truD, oeq_ap, one_ap, eqvStr, eqvInt, eqvBool, shInt, shBool, and_self, isI_i, isB_i, isT_t, strOk, zipW_ap, asL_t, asL_l, oisN_t, oisN_n, onotN_n, asB_b, decide_true, decide_false, beq_self_eq_true, Bool.or_false, Bool.false_or, Bool.and_true, Bool.true_and, noD, comp2_ap, methW_ap, opW_ap, neW_ap, propW_ap, lenW_ap, isiW_ap, mkW_ap, fnI_ap, argI1_ap, isX_ap])
theorem ok_err {Wo : WO} {f : Addr} {fd : FuncData} (F : Fun K "_law_store_error" "_law_store_error" s__law_store_error f fd) (u : Bb mg) (n : Nam mg er) (c : Cls1 K er (er "InvalidSums")) : FnZ P w K mg base 2 f fd ["_law_e"] (spD (kkOf P w K) Wo 1 (Sm (S_err er))) :=
  okZ F sc__law_store_error rfl fun cdv A outer s H E M bs t Pt hr hl h => by
    obtain ⟨ds, v, rfl, ht, hp⟩ := h
    have nd := sc__law_store_error.nd
    have hu := unitsH hr
    have hu5 : (Xz P w K mg base ["_law_e", "_law_sorts"] "_law_store_error" (defScope s__law_store_error) f cdv A outer s H E).nox.A.units + 65 < cLine := by
      have := hr.un
      omega
    refine fn_run [.d (excD (er "InvalidSums") ds), .un] (m := fun t P => told er ⟨er "InvalidSums", ds⟩ = some v ∧ P (.rt (.d v)) t) (rs_imp (rs_set 1 nd (rd_l (rl_lst (ra_cons (rd_isX u (qOf_ex c.x c.i1) (rd_nm 0) n.n1) (ra_cons (rd_isX u (qOf_ex c.x c.i2) (rd_nm 0) n.n2) (ra_cons (rd_isX u (qOf_ex c.x c.i3) (rd_nm 0) n.n3) ra_nil))))) fun k1 =>
      rs_set 1 nd (rd_l (rl_cat (rd_nm 1) (rd_l (rl_lst (ra_cons (rd_isX u (qOf_ex c.x c.i4) (rd_nm 0) n.n4) (ra_cons (rd_isX u (qOf_ex c.x c.i5) (rd_nm 0) n.n5) ra_nil)))))) fun k2 =>
      rs_if0 (rt_v (rv_or (rt_neH hu (rd_l (rl_slL (rd_nm 1) (ro_some rd_int) ro_none)) (rd_l (rl_lst (ra_cons rd_bl (ra_cons rd_bl ra_nil))))) (rv_one (rt_neH hu (rd_count hu5 (rd_nm 1) rd_bl) rd_int))))
        (rs_ret (rd_tup (ra_cons rd_str (ra_cons rd_non ra_nil))))
      (rs_ifF (rt_tru (rd_ix (rd_nm 1) rd_int))
      (rs_ret (rd_tup (ra_cons (rd_if (rt_tru (rd_ix (rd_nm 1) rd_int)) rd_str rd_str) (ra_cons (rd_fldX (k := fun D => D = er "InvalidSums") (m := "word") (fun D e => e ▸ ⟨c.f, c.w⟩) (rd_nm 0)) (ra_cons (rd_fldX (k := fun D => D = er "InvalidSums") (m := "at") (fun D e => e ▸ ⟨c.f, c.a⟩) (rd_nm 0)) ra_nil))))))) fun t1 P1 z => ?_) ⟨ht, hp⟩
    obtain ⟨w, a, h1, h2, rfl⟩ := told_inv ht
    have hz := z.2
    walk_at "w"
    rw [show Dl.cutD ([PyData.bool true, PyData.bool false, PyData.bool false] ++ [PyData.bool false, PyData.bool false]) (some 3) none = [PyData.bool false, PyData.bool false] from rfl]
    rw [show PyData.eqv (.list [PyData.bool false, PyData.bool false]) (.list [PyData.bool false, PyData.bool false]) = true from by simp [PyData.eqv, PyData.eqvAll]]
    refine ⟨⟨rfl, rfl⟩, ?_⟩
    show bnd (op2 one_ (cntW (Dw.ret (PyData.list [PyData.bool true, PyData.bool false, PyData.bool false, PyData.bool false, PyData.bool false])) (Dw.ret (PyData.bool true))) (Dw.ret (PyData.int 1))) asB t1 _
    unfold cntW
    walk_at "w"
    refine ⟨rfl, ?_⟩
    rw [show (List.countP (fun z => PyData.eqv z (PyData.bool true)) [PyData.bool true, PyData.bool false, PyData.bool false, PyData.bool false, PyData.bool false]) = 1 from by simp [PyData.eqv]]
    walk_at "w"
    rw [show (!((1 : Nat) : Int) == 1) = false from rfl]
    walk_at "w"
    rw [oix_l (z := .bool false) rfl]
    walk_at "w"
    rw [oix_l (z := .bool true) rfl]
    walk_at "w"
    rw [fldX_ap h1, fldX_ap h2]
    walk_at "w"
    exact hz
/-- the suite behind except -/
abbrev suiteOf : List Stmt → List Stmt
  | .Try _ [.ExceptHandler _ _ b _] _ _ _ :: _ => b
  | _ :: r => suiteOf r
  | [] => []
abbrev saidSuite : List Stmt := suiteOf (defBody s__law_said)
/-- what is made of the exception -/
def ksW (er : Str → Addr) (C : Addr) (ds : List (PyData × PyData)) : W (Out PyData Empty) := fun t P => ∃ v, C = er "InvalidSums" ∧ told er ⟨er "InvalidSums", ds⟩ = some v ∧ P (.nx v) t
abbrev NSaid : List Str := ["_law_ask", "_law_found", "_law_e", "_law_kinds"]
theorem ok_suite {Y : Cx} {Wo : WO} {M : Md Y.KK Wo} {k : Nat} (hY : ∃ (X : Cx) (g : Addr) (cdv : Value) (s : Shared) (H : Hp) (a : Addr) (pn : List (Addr × Obj)), Y = (Yl X NSaid "_law_said" (defScope s__law_said) g cdv s H).suite a pn)
    (hr : L2H.RoomH k Y.A) (u : Bb Y.mg) (n : Nam Y.mg er) (c : Cls1 Y.K er (er "InvalidSums")) (D : DefZ Y.prog Y.w Y.K Wo Y.mg Y.base k "_law_store_error" 1 (Sm (S_err er))) (C : Addr) (ds : List (PyData × PyData)) :
    RS (X := Y) M saidSuite [.un, .un, .d (excD C ds), .un] (fun y => [.un, .d y, .un, .un]) (nul : Empty → List B) (ksW er C ds) := by
  obtain ⟨X, g, cdv, s, H, a, pn, rfl⟩ := hY
  have nd := sc__law_said.nd
  refine rs_imp (rs_set 3 nd (rd_l (rl_lst (ra_cons (rd_isX u (qOf_ex c.x c.iP) (rd_nm 2) n.p) (ra_cons (rd_isX u (qOf_ex c.x c.iS) (rd_nm 2) n.s) ra_nil)))) fun k3 =>
    rs_set 3 nd (rd_l (rl_cat (rd_nm 3) (rd_l (rl_lst (ra_cons (rd_isX u (qOf_ex c.x c.iV) (rd_nm 2) n.v) (ra_cons (rd_isX u (qOf_ex c.x c.iT) (rd_nm 2) n.t) ra_nil)))))) fun k4 =>
    rs_ifF (rt_v (rv_and (rt_eqH (unitsH hr) (rd_nm 3) (rd_l (rl_lst (ra_cons rd_bl (ra_cons rd_bl (ra_cons rd_bl (ra_cons rd_bl ra_nil))))))) (rv_one (rt_tru (rd_isX u (qOf_ex c.x c.i6) (rd_nm 2) n.ip))))) (
    rs_ifT (α := PyData) (eme := fun y => [.un, .d y, .un, .un]) (rt_eqH (unitsH hr) (rd_nm 3) (rd_l (rl_lst (ra_cons rd_bl (ra_cons rd_bl (ra_cons rd_bl (ra_cons rd_bl ra_nil)))))))
      (rs_set 1 nd (rd_callZ hr D (ra_cons (rd_nm 2) ra_nil) (Nat.le_refl _)) fun y => rs_nil (s := y) (.same (.same (.un (.un .nil))))) fun y => rs_nil (s := y) (.same (.same (.same (.same .nil)))))) fun t1 P1 z => ?_
  obtain ⟨v, rfl, ht, hz⟩ := z
  walk_at "w"
  refine ⟨⟨rfl, rfl⟩, ?_⟩
  rw [show PyData.eqv (.list ([PyData.bool false, PyData.bool true] ++ [PyData.bool false, PyData.bool false])) (.list [PyData.bool true, PyData.bool false, PyData.bool false, PyData.bool false]) = false from by simp [PyData.eqv, PyData.eqvAll]]
  walk_at "w"
  exact ⟨⟨rfl, rfl⟩, by simp [PyData.eqv, PyData.eqvAll], ds, v, rfl, ht, hz⟩
/-- what the catcher makes of a thunk, as the rules say it -/
def m_said (er : Str → Addr) : LS := fun m => fnW (
  bnd (disp (dA (Dw.ret (PyData.str "odd")) (dA (Dw.ret PyData.none) (Dw.ret []))) fun xs => Dw.ret (PyData.tuple xs)) fun _ =>
  tryW (fun C => C = er "InvalidSums") (fun Ex => bnd (disp (dA (Dw.ret (PyData.str "result")) (dA (m Ex) (Dw.ret []))) fun xs => Dw.ret (PyData.tuple xs)) fun y => Dw.ret (Out.nx y)) (ksW er) fun y => bnd (Dw.ret y) fun x => Dw.ret (Out.rt (B.d x)))
theorem told_C {xd : XD} {v : PyData} (h : told er xd = some v) : xd.C = er "InvalidSums" := by
  unfold told at h
  by_cases e : xd.C = er "InvalidSums"
  · exact e
  · rw [if_neg e] at h
    cases h
theorem said_le {m : XW → W PyData} {t : Rs} {Q : B → Rs → Prop} (h : saidW (told er) okR m t Q) : m_said er m t Q := by
  unfold m_said
  walk_at "w"
  refine h _ _ (fun xd v t1 ht hp => ?_) fun v t1 hp => ?_
  · have e := told_C ht
    refine ⟨e, v, e, ?_, hp⟩
    rw [← e]
    exact ht
  · walk_at "w"
    exact hp
theorem ok_said {Wo : WO} {f : Addr} {fd : FuncData} (F : Fun K "_law_said" "_law_said" s__law_said f fd) (bd : Binds K fd ["_law_ask"] []) (u : Bb mg) (n : Nam mg er) (c : Cls1 K er (er "InvalidSums")) (hm : mg "_law_said" = some (.ref f)) (D : DefZ P w K Wo mg base 2 "_law_store_error" 1 (Sm (S_err er))) : SaidAt P w K Wo mg base 6 "_law_said" (told er) okR := fun X e1 e2 e3 e4 e5 hr => by
  subst e1 e2 e3 e4 e5
  obtain ⟨oc, od, kV, doc, pm, an, cdv, ct, osl, rfl, lk, hcd⟩ := F.ex
  refine ⟨f, _, _, _, .none, kV, doc, pm, cdv, ct, oc, an, od, osl, NSaid, "_law_ask", hm, F.kp, lk, hcd, bd, sc__law_said, rfl, by first | exact Or.inl rfl | exact Or.inr (Or.inl rfl), rfl, rfl, fun q => ?_⟩
  refine okL (by decide) fun g s H G M t Pt m ask hS => ?_
  have nd := sc__law_said.nd
  refine fn_run [.fx g, .un, .un, .un] (rs_set 1 nd (rd_tup (ra_cons rd_str (ra_cons rd_non ra_nil))) fun found =>
      rs_try (α := PyData) (fits := fun C => C = er "InvalidSums") (ks := ksW er) (i := 2) (eme := fun y => [.un, .d y, .un, .un]) (emeS := fun y => [.un, .d y, .un, .un]) (nb := nul) rfl rfl nd rfl rfl ⟨rfl, rfl, .inl n.r⟩ rfl rfl (fun C e => e ▸ c.ex)
        (fun t1 G1 H1 st ok pn xe Ex T po => rs_set 1 nd (rd_tup (ra_cons rd_str (ra_cons (ask pn xe G1 H1 t1 Ex _ _ _ (stp_at st) T rfl) ra_nil))) fun y => rs_nil (s := y) ?_)
        (fun t1 G1 H1 st ok a pn C ds => ?_) (fun y => ?_) fun y => rs_ret (rd_nm 1)) (said_le hS)
  · exact .un (.same (.same (.same .nil)))
  · refine ok_suite (k := 2) ⟨X, f, cdv, s, H, a, pn, rfl⟩ ?_ u n c D C ds
    exact ⟨by
      have := hr.dp
      show X.A.depth + 1 + 3 * 2 + 5 < _
      omega, by
      have := hr.un
      show X.A.units + 3 + 16 * 2 + 200 < _
      omega⟩
  · exact .same (.same (.same (.same .nil)))
end
end K36
end
section
set_option maxRecDepth 100000
set_option maxHeartbeats 4000000
namespace K36
open PySem PySem.Spec PyProof.Rows L2 Dl Dw Dz Dy Dx
open Dw (ret)
local macro_rules | `(tactic| walk_at "w") => `(tactic| try simp only [bnd_ap, ret_ap, need_ap, op1_ap, op2_ap, dA_ap, rdA_ap, callN_ap, asD_d, asD_own, asO_own, asB_b, asT_ap, froz_ap, disp_ap, ifW_ap, andT_ap, orT_ap, notT_ap, andW_b, orW_b, thn_ap, joi_ap, upO_ap, fnW_ap, fnU_ap, compW_ap, compO_ap, optW_ap, itL_ap, itT_ap, rng1_ap, rng2_ap, slT_ap, slL_ap, oN_ap, oS_ap, consA_ap, catL_ap, two_ap, three_ap, twoL_ap, threeL_ap, oadd_i, osub_i, omul_i, oneg_i, olt_i, ole_i, ogt_i, onot_b, oisi_ap, otup_l, otup_t, oint_i, olen_t, olen_l, arg0_ap, arg1_ap, arg2_ap, arg3_ap, arg4_ap, arg5_ap, argR0_ap, argR1_ap, argR2_ap, argR3_ap, argR4_ap, dsOf, Option.map_some, Option.map_none, List.length_cons, List.length_nil, Nat.reduceAdd, Nat.reduceLeDiff, true_and, and_true, cond_t, cond_f, Bool.not_true, Bool.not_false, truD, oeq_ap, one_ap, eqvStr, eqvInt, eqvBool, shInt, shBool, and_self, isI_i, isB_i, isT_t, strOk, zipW_ap, asL_t, asL_l, oisN_t, oisN_n, onotN_n, asB_b, decide_true, decide_false, beq_self_eq_true, Bool.or_false, Bool.false_or, Bool.and_true, Bool.true_and, noD, comp2_ap, methW_ap, opW_ap, neW_ap, propW_ap, lenW_ap, isiW_ap, mkW_ap, fnI_ap, argI1_ap])
/-! ### sets of sums -/
abbrev rT (A : List (List Int)) : PyData := .tuple (A.map iT)
def So (C : Addr) (A : List (List Int)) : PyData := objD C [(.str "_form", rT A)]
def Len (m : Nat) (A : List (List Int)) : Prop := ∀ r ∈ A, r.length = m
def addS (A D : List (List Int)) : List (List Int) := sdd (A.flatMap fun a => D.map fun d => vad a d)
def orS (A D : List (List Int)) : List (List Int) := sdd (A ++ D)
def andS (A D : List (List Int)) : List (List Int) := sdd (A.filter fun a => decide (a ∈ D))
def subS (A D : List (List Int)) : List (List Int) := sdd (A.filter fun a => !decide (a ∈ D))
def restS (A T : List (List Int)) : List (List Int) := sdd ((T.map fun x => vsb x (A.headD [])).filter fun x => A.all fun o => decide (vad x o ∈ T))
structure Gd (m n : Nat) (A : List (List Int)) : Prop where
  len : Len m A
  few : A.length ≤ n
  asc : Asc A
/-- what is fitting for lengths: one or two -/
structure Mm (m : Nat) : Prop where
  lo : 0 < m
  hi : m ≤ 3
theorem insI_len (x : List Int) : ∀ l, (insI x l).length ≤ l.length + 1
  | [] => by simp [insI]
  | y :: l => by
    have := insI_len x l
    unfold insI
    repeat' split
    all_goals simp
    all_goals omega
theorem sdd_len : ∀ l : List (List Int), (sdd l).length ≤ l.length
  | [] => by simp [sdd]
  | x :: l => by
    have h1 := insI_len x (sdd l)
    have h2 := sdd_len l
    show (insI x (sdd l)).length ≤ l.length + 1
    omega
section
variable {m n k : Nat} {A D T : List (List Int)} {x : List Int}
theorem Gd.up (h : Gd m n A) (e : n ≤ k) : Gd m k A := ⟨h.len, Nat.le_trans h.few e, h.asc⟩
theorem Gd.ne (h : Gd m n A) (hm : Mm m) : ∀ r ∈ A, r ≠ [] := fun r hr z => by
  have := h.len r hr
  have := hm.lo
  subst z
  simp at *
  omega
theorem len_ne (h : Len m A) (hm : Mm m) : ∀ r ∈ A, r ≠ [] := fun r hr z => by
  have := h r hr
  have := hm.lo
  subst z
  simp at *
  omega
theorem sdd_gd (h : Len m A) (few : A.length ≤ n) : Gd m n (sdd A) := ⟨fun r hr => h r (mem_sdd.mp hr), Nat.le_trans (sdd_len A) few, asc_sdd A⟩
theorem sdd_id (h : Asc A) : sdd A = A := asc_uniq (asc_sdd A) h fun x => mem_sdd
theorem mem_addS : x ∈ addS A D ↔ ∃ a ∈ A, ∃ d ∈ D, x = vad a d := by
  unfold addS
  rw [mem_sdd]
  simp only [List.mem_flatMap, List.mem_map]
  constructor
  · rintro ⟨a, ha, d, hd, rfl⟩
    exact ⟨a, ha, d, hd, rfl⟩
  · rintro ⟨a, ha, d, hd, rfl⟩
    exact ⟨a, ha, d, hd, rfl⟩
theorem mem_orS : x ∈ orS A D ↔ x ∈ A ∨ x ∈ D := by unfold orS; rw [mem_sdd, List.mem_append]
theorem mem_andS : x ∈ andS A D ↔ x ∈ A ∧ x ∈ D := by unfold andS; rw [mem_sdd]; simp
theorem mem_subS : x ∈ subS A D ↔ x ∈ A ∧ ¬ x ∈ D := by unfold subS; rw [mem_sdd]; simp
theorem mem_restS (hA : Len m A) (hT : Len m T) (h0 : A ≠ []) : x ∈ restS A T ↔ x.length = m ∧ ∀ o ∈ A, vad x o ∈ T := by
  obtain ⟨a, r, rfl⟩ : ∃ a r, A = a :: r := by
    cases A with
    | nil => exact absurd rfl h0
    | cons a r => exact ⟨a, r, rfl⟩
  have ha := hA a (List.mem_cons_self ..)
  unfold restS
  rw [mem_sdd]
  simp only [List.headD_cons, List.mem_filter, List.mem_map, List.all_eq_true, decide_eq_true_eq]
  constructor
  · rintro ⟨⟨y, hy, rfl⟩, h⟩
    exact ⟨vsb_len (hT y hy) ha, h⟩
  · rintro ⟨hl, h⟩
    exact ⟨⟨vad x a, h a (List.mem_cons_self ..), vsb_vad (by rw [hl, ha])⟩, h⟩
theorem addS_gd (hA : Gd m n A) (hD : Gd m k D) {j : Nat} (e : n * k ≤ j) : Gd m j (addS A D) := by
  refine sdd_gd (fun r hr => ?_) ?_
  · simp only [List.mem_flatMap, List.mem_map] at hr
    obtain ⟨a, ha, d, hd, rfl⟩ := hr
    exact vad_len (hA.len a ha) (hD.len d hd)
  · have : (A.flatMap fun a => D.map fun d => vad a d).length = A.length * D.length := by
      rw [List.length_flatMap]
      simp only [List.length_map]
      rw [List.map_const', List.sum_replicate_nat]
    rw [this]
    exact Nat.le_trans (Nat.mul_le_mul hA.few hD.few) e
theorem orS_gd (hA : Gd m n A) (hD : Gd m k D) {j : Nat} (e : n + k ≤ j) : Gd m j (orS A D) :=
  sdd_gd (fun r hr => (List.mem_append.mp hr).elim (hA.len r) (hD.len r)) (by
    rw [List.length_append]
    have := hA.few
    have := hD.few
    omega)
theorem fil_gd (hA : Gd m n A) (p : List Int → Bool) : Gd m n (sdd (A.filter p)) := sdd_gd (fun r hr => hA.len r (List.mem_filter.mp hr).1) (Nat.le_trans (List.length_filter_le _ _) hA.few)
theorem restS_gd (hA : Len m A) (hT : Gd m n T) (h0 : A ≠ []) : Gd m n (restS A T) := by
  obtain ⟨a, r, rfl⟩ : ∃ a r, A = a :: r := by
    cases A with
    | nil => exact absurd rfl h0
    | cons a r => exact ⟨a, r, rfl⟩
  refine sdd_gd (fun r hr => ?_) (Nat.le_trans (List.length_filter_le _ _) (by rw [List.length_map]; exact hT.few))
  obtain ⟨y, hy, rfl⟩ := List.mem_map.mp (List.mem_filter.mp hr).1
  exact vsb_len (hT.len y hy) (hA a (List.mem_cons_self ..))
theorem eq_of (hA : Asc A) (hD : Asc D) (h : ∀ x, x ∈ A ↔ x ∈ D) : A = D := asc_uniq hA hD h
end
/-! ### rows as data -/
section
variable {t : Rs} {P : B → Rs → Prop} {C : Addr} {A D T : List (List Int)} {m n k : Nat}
theorem lay_rows : ∀ a : List (List Int), PyData.canLayAll0 (a.map iT) = true
  | [] => by simp [PyData.canLayAll0]
  | x :: r => by
    have := SeqAt.canLay_of_shaped (shaped_intsT x)
    simp only [List.map_cons, PyData.canLayAll0, this, lay_rows r, Bool.and_self]
theorem dep_rows : ∀ a : List (List Int), PyData.depthAll (a.map iT) ≤ 10
  | [] => by simp [PyData.depthAll]
  | x :: r => by
    have h := dep_ints x
    have h2 := dep_rows r
    simp only [List.map_cons, PyData.depthAll, PyData.depth]
    omega
theorem shRowsT (a : List (List Int)) : SeqAt.shaped (rT a) = true := by
  refine shaped_of (by simp only [PyData.canLay0]; exact lay_rows a) ?_
  have h := dep_rows a
  simp only [PyData.depth]
  omega
theorem eqvAll_rows : ∀ a b : List (List Int), PyData.eqvAll (a.map iT) (b.map iT) = decide (a = b)
  | [], [] => by simp [PyData.eqvAll]
  | [], _ :: _ => by simp [PyData.eqvAll]
  | _ :: _, [] => by simp [PyData.eqvAll]
  | x :: a, y :: b => by
    simp only [List.map_cons, PyData.eqvAll, eqvT, eqvAll_rows a b]
    by_cases h1 : x = y <;> by_cases h2 : a = b <;> simp [h1, h2]
theorem eqvR (a b : List (List Int)) : PyData.eqv (rT a) (rT b) = decide (a = b) := by
  show PyData.eqv (.tuple _) (.tuple _) = _
  rw [PyData.eqv, eqvAll_rows]
theorem intRows_rT (L : List (List Int)) : intRows (L.map iT) = some L := intRows_map L
theorem isC_So : isC C (So C A) := ⟨_, rfl⟩
theorem lookF1 (x : PyData) : lookF "_form" [(.str "_form", x)] = some x := by
  show (if _ = _ then _ else _) = _
  rw [if_pos rfl]
theorem fld_So (P : PyData → Rs → Prop) (q : P (rT A) t) : fldW C "_form" (So C A) t P := ⟨_, _, rfl, lookF1 _, q⟩
theorem okM_of {x : Str} (h : ¬ x = "_form") : okM C x (So C A) := ⟨_, rfl, by
  show (if _ = _ then _ else _) = _
  rw [if_neg h]
  rfl⟩
theorem ok_rest : okM C "rest_in" (So C A) := okM_of (by decide +kernel)
theorem ok_worth : okM C "worth_in" (So C A) := okM_of (by decide +kernel)
theorem ok_chk : okM C "_check_length" (So C A) := okM_of (by decide +kernel)
/-! ### as_set, all_added, rest_of_sums -/
theorem sdQ_ap (f : W PyData) (P : List PyData → Rs → Prop) : sdQ f t P = f t fun x t1 => (match (seqD x).bind intRows with | some nss => need (nss.length < 64 ∧ ∀ ns ∈ nss, ns ≠ []) (Dw.ret ((sdd nss).map iRow)) | none => bad) t1 P := id rfl
theorem p_as_set {x : PyData} (hx : seqD x = some (A.map iT)) (few : A.length < 64) (ne : ∀ r ∈ A, r ≠ []) (q : P (.d (rT (sdd A))) t) : m_as_set [.d x] t P := by
  unfold m_as_set
  walk_at "w"
  rw [sdQ_ap]
  walk_at "w"
  simp only [hx, Option.bind_some, intRows_rT, need_ap, ret_ap]
  refine ⟨⟨few, ne⟩, ?_⟩
  walk_at "w"
  exact q
theorem flat_on {it2 : PyData → W (List PyData)} {f : PyData → PyData → W PyData} {g : List Int → List Int → List Int} (h1 : ∀ a Q, Q (D.map iT) t → it2 (iT a) t Q) : ∀ (A : List (List Int)) (acc : List PyData) (P : List PyData → Rs → Prop),
    (∀ a ∈ A, ∀ d ∈ D, ∀ Q : PyData → Rs → Prop, Q (iT (g a d)) t → f (iT a) (iT d) t Q) → acc.length + A.length * D.length ≤ 16777216 → P (acc ++ (A.flatMap fun a => D.map fun d => iT (g a d))) t → flatW it2 f (A.map iT) acc t P
  | [], acc, P, _, _, q => by
    have q' : P (acc ++ []) t := q
    rw [List.append_nil] at q'
    exact q'
  | a :: A, acc, P, h2, few, q => by
    rw [List.length_cons, Nat.succ_mul] at few
    refine h1 a _ ?_
    show acc.length + (D.map iT).length ≤ 16777216 ∧ mapW (f (iT a)) (D.map iT) t (fun zs t1 => flatW it2 f (A.map iT) (acc ++ zs) t1 P)
    refine ⟨by rw [List.length_map]; omega, ?_⟩
    refine map_on (h := fun d => iT (g a d)) (fun d hd Q hQ => h2 a (List.mem_cons_self ..) d hd Q hQ) ?_
    refine flat_on h1 A _ P (fun b hb => h2 b (List.mem_cons_of_mem _ hb)) (by rw [List.length_append, List.length_map]; omega) ?_
    rw [List.append_assoc]
    exact q
theorem p_all_added (hm : Mm m) (hA : Len m A) (hD : Len m D) (few : A.length * D.length < 64) (few2 : A.length < 64) (q : P (.d (rT (addS A D))) t) : m_all_added [.d (rT A), .d (rT D)] t P := by
  have hi := hm.hi
  unfold m_all_added
  walk_at "w"
  refine flat_on (D := D) (g := vad) (fun a Q hQ => ?_) A [] _ (fun a ha d hd Q hQ => ?_) (by simp; omega) ?_
  · walk_at "w"
    exact hQ
  · walk_at "w"
    refine p_added (hA a ha) (hD d hd) (by omega) ?_
    walk_at "w"
    exact hQ
  · walk_at "w"
    refine p_as_set (A := A.flatMap fun a => D.map fun d => vad a d) ?_ ?_ (len_ne (m := m) (fun r hr => ?_) hm) ?_
    · show some _ = some _
      simp [List.map_flatMap, Function.comp_def]
    · rw [List.length_flatMap]
      simp only [List.length_map]
      rw [List.map_const', List.sum_replicate_nat]
      exact few
    · simp only [List.mem_flatMap, List.mem_map] at hr
      obtain ⟨a, ha, d, hd, rfl⟩ := hr
      exact vad_len (hA a ha) (hD d hd)
    · walk_at "w"
      exact q
theorem set_row {x : PyData} {A : List (List Int)} {P : PyData → Rs → Prop} (hx : seqD x = some (A.map iT)) (few : A.length < 64) (q : ∀ L : List (List Int), (∀ r, r ∈ L ↔ r ∈ A) → P (setD L) t) : osetW x t P :=
  ⟨A, by rw [hx]; exact intRows_rT A, few, q⟩
theorem in_set {a : List Int} {L : List (List Int)} {neg : Bool} {P : PyData → Rs → Prop} (q : P (.bool (if neg then !decide (a ∈ L) else decide (a ∈ L))) t) : oinS neg (iT a) (setD L) t P :=
  ⟨a, L, intsOf_map a, setRows_setD L, q⟩
theorem p_rest_of (hm : Mm m) (hA : Len m A) (hT : Len m T) (h0 : A ≠ []) (few : T.length < 64) (few2 : A.length < 64) (q : P (.d (rT (restS A T))) t) : m_rest_of_sums [.d (rT A), .d (rT T)] t P := by
  have hi := hm.hi
  unfold m_rest_of_sums
  walk_at "w"
  refine set_row rfl few fun L hL => ?_
  have hh : (A.headD []).length = m := by
    cases A with
    | nil => exact absurd rfl h0
    | cons a r => exact hA a (List.mem_cons_self ..)
  have hat : ∀ Q : PyData → Rs → Prop, Q (iT (A.headD [])) t → oix (rT A) (.int 0) t Q := fun Q hQ => by
    cases A with
    | nil => exact absurd rfl h0
    | cons a r =>
      show (match atI ((a :: r).map iT) (0 : Int) with | some z => ret z | none => (bad : W PyData)) t Q
      rw [show atI ((a :: r).map iT) (0 : Int) = some (iT a) from atI_nat (j := 0) rfl]
      exact hQ
  refine ⟨by rw [List.length_map]; omega, ?_⟩
  refine map_on (h := fun x => iT (vsb x (A.headD []))) (fun x hx Q hQ => ?_) ?_
  · walk_at "w"
    refine hat _ ?_
    walk_at "w"
    refine p_subtracted (hT x hx) hh (by omega) ?_
    walk_at "w"
    exact hQ
  have e1 : (T.map fun x => iT (vsb x (A.headD []))) = (T.map fun x => vsb x (A.headD [])).map iT := by rw [List.map_map]; rfl
  rw [e1]
  walk_at "w"
  refine ⟨by rw [List.length_map, List.length_map]; omega, ?_⟩
  refine fil_on (h := iT) (c := fun x => A.all fun o => decide (vad x o ∈ T)) (fun x hx Q hQ => ?_) ?_
  · obtain ⟨y, hy, rfl⟩ := List.mem_map.mp hx
    walk_at "w"
    refine ⟨by rw [List.length_map]; omega, ?_⟩
    refine map_on (h := fun o => .bool (decide (vad (vsb y (A.headD [])) o ∈ T))) (fun o ho R hR => ?_) ?_
    · walk_at "w"
      refine p_added (vsb_len (hT y hy) hh) (hA o ho) (by omega) ?_
      walk_at "w"
      refine in_set ?_
      rw [if_neg (by decide)]
      have e : decide (vad (vsb y (A.headD [])) o ∈ L) = decide (vad (vsb y (A.headD [])) o ∈ T) := by
        by_cases h : vad (vsb y (A.headD [])) o ∈ T
        · rw [decide_eq_true h, decide_eq_true ((hL _).mpr h)]
        · rw [decide_eq_false h, decide_eq_false fun z => h ((hL _).mp z)]
      rw [e]
      exact hR
    · walk_at "w"
      have e2 : (A.map fun o => PyData.bool (decide (vad (vsb y (A.headD [])) o ∈ T))) = (A.map fun o => decide (vad (vsb y (A.headD [])) o ∈ T)).map PyData.bool := by rw [List.map_map]; rfl
      rw [e2, oall_bs, List.all_map]
      walk_at "w"
      refine cond_ap (fun hc => ?_) fun hc => ?_
      · walk_at "w"
        rw [if_pos (by exact hc)] at hQ
        exact hQ
      · walk_at "w"
        rw [if_neg (by rw [show (A.all fun o => decide (vad (vsb y (A.headD [])) o ∈ T)) = false from hc]; decide)] at hQ
        exact hQ
  · walk_at "w"
    refine p_as_set (A := (T.map fun x => vsb x (A.headD [])).filter fun x => A.all fun o => decide (vad x o ∈ T)) rfl ?_ (len_ne (m := m) (fun r hr => ?_) hm) ?_
    · exact Nat.lt_of_le_of_lt (List.length_filter_le _ _) (by rw [List.length_map]; exact few)
    · obtain ⟨y, hy, rfl⟩ := List.mem_map.mp (List.mem_filter.mp hr).1
      exact vsb_len (hT y hy) hh
    · walk_at "w"
      exact q
end
end K36
end
section
set_option maxRecDepth 100000
set_option maxHeartbeats 4000000
namespace K36
open PySem PySem.Spec PyProof.Rows L2 Dl Dw Dz Dy Dx
open Dw (ret)
section
variable {t : Rs} {C : Addr} {A : List (List Int)}
theorem raiW_ap {α : Type} {er : Str → Addr} {t : Rs} (c : Addr) (names : List Str) (Ex : XW) (af : W (List B)) (P : α → Rs → Prop) : raiW c names Ex af t P = af t fun bs t1 => ∃ ds, dsOf bs = some ds ∧ ds.length = names.length ∧ ds.length ≤ 900 ∧ Ex ⟨c, (zipR names ds []).map fun p => (.str p.1, p.2)⟩ t1 := id rfl
theorem enumW_ap (f : W PyData) (P : List PyData → Rs → Prop) : enumW f t P = f t fun x t1 => (match x with | .tuple xs => Dw.ret (enumD xs) | _ => (bad : W (List PyData))) t1 P := id rfl
theorem isC_t : isC C (So C A) = True := eq_true isC_So
theorem okr_t : okM C "rest_in" (So C A) = True := eq_true ok_rest
theorem okw_t : okM C "worth_in" (So C A) = True := eq_true ok_worth
theorem okc_t : okM C "_check_length" (So C A) = True := eq_true ok_chk
theorem fld_t (P : PyData → Rs → Prop) : fldW C "_form" (So C A) t P = P (rT A) t := by
  refine propext ⟨fun ⟨ds, d, e, l, p⟩ => ?_, fun q => fld_So P q⟩
  unfold So objD at e
  injection e with e
  injection e with _ e
  subst e
  rw [lookF1] at l
  cases l
  exact p
theorem ocatT_t (a b : List PyData) (P : PyData → Rs → Prop) : ocatT (.tuple a) (.tuple b) t P = (a.length + b.length ≤ 16777216 ∧ P (.tuple (a ++ b)) t) := id rfl
end
local macro_rules | `(tactic| walk_at "w") => `(tactic| try simp only [bnd_ap, ret_ap, need_ap, op1_ap, op2_ap, dA_ap, rdA_ap, callN_ap, asD_d, asD_own, asO_own, asB_b, asT_ap, froz_ap, disp_ap, ifW_ap, andT_ap, orT_ap, notT_ap, andW_b, orW_b, thn_ap, joi_ap, upO_ap, fnW_ap, fnU_ap, compW_ap, compO_ap, optW_ap, itL_ap, itT_ap, rng1_ap, rng2_ap, slT_ap, slL_ap, oN_ap, oS_ap, consA_ap, catL_ap, two_ap, three_ap, twoL_ap, threeL_ap, oadd_i, osub_i, omul_i, oneg_i, olt_i, ole_i, ogt_i, onot_b, oisi_ap, otup_l, otup_t, oint_i, olen_t, olen_l, arg0_ap, arg1_ap, arg2_ap, arg3_ap, arg4_ap, arg5_ap, argR0_ap, argR1_ap, argR2_ap, argR3_ap, argR4_ap, dsOf, Option.map_some, Option.map_none, List.length_cons, List.length_nil, Nat.reduceAdd, Nat.reduceLeDiff, true_and, and_true, cond_t, cond_f, Bool.not_true, Bool.not_false, truD, oeq_ap, one_ap, eqvStr, eqvInt, eqvBool, shInt, shBool, and_self, isI_i, isB_i, isT_t, strOk, zipW_ap, asL_t, asL_l, oisN_t, oisN_n, onotN_n, asB_b, decide_true, decide_false, beq_self_eq_true, Bool.or_false, Bool.false_or, Bool.and_true, Bool.true_and, noD, comp2_ap, methW_ap, opW_ap, neW_ap, propW_ap, lenW_ap, isiW_ap, mkW_ap, fnI_ap, argI1_ap, raiW_ap, enumW_ap, isC_t, okr_t, okw_t, okc_t, fld_t, ocatT_t])
section
variable {t : Rs} {C : Addr} {er : Str → Addr} {Ex : XW} {A D T : List (List Int)} {m n k : Nat}
theorem at0 {Q : PyData → Rs → Prop} {a : List Int} {r : List (List Int)} (hQ : Q (iT a) t) : oix (rT (a :: r)) (.int 0) t Q := by
  show (match atI ((a :: r).map iT) (0 : Int) with | some z => ret z | none => (bad : W PyData)) t Q
  rw [show atI ((a :: r).map iT) (0 : Int) = some (iT a) from atI_nat (j := 0) rfl]
  exact hQ
theorem at0' {Q : PyData → Rs → Prop} (h : A ≠ []) (hQ : Q (iT (A.headD [])) t) : oix (rT A) (.int 0) t Q := by
  cases A with
  | nil => exact absurd rfl h
  | cons a r => exact at0 hQ
theorem for_tt {fb : Unit → PyData → W (Out Unit Unit)} : ∀ {xs : List PyData} {P : Sum Unit B → Rs → Prop}, (∀ x ∈ xs, ∀ Q : Out Unit Unit → Rs → Prop, Q (.nx ()) t → fb () x t Q) → P (.inl ()) t → forW fb xs () t P
  | [], P, _, q => q
  | x :: r, P, h, q => h x (List.mem_cons_self ..) _ (for_tt (fun y hy => h y (List.mem_cons_of_mem _ hy)) q)
theorem p_init {Q : List (PyData × PyData) → Rs → Prop} (hm : Mm m) (hA : Len m A) (few : A.length < 64) (q : Q [(.str "_form", rT (sdd A))] t) : m_S___init__ C er Ex [.d (rT A)] t Q := by
  have hi := hm.hi
  unfold m_S___init__
  walk_at "w"
  refine p_longs (fun r hr => ⟨by have := hA r hr; omega, len_ne hA hm r hr⟩) few ?_
  walk_at "w"
  refine for_tt (fun x hx Q hQ => ?_) ?_
  · unfold enumD at hx
    obtain ⟨i, hi2, rfl⟩ := List.mem_map.mp hx
    have hi2 := List.mem_range.mp hi2
    rw [List.length_map] at hi2
    have e : (A.map iT).getD i .none = iT A[i] := by simp [List.getD, List.getElem?_map, List.getElem?_eq_getElem hi2]
    have l1 : A[i].length = m := hA _ (List.getElem_mem hi2)
    have ne : A ≠ [] := fun z => by subst z; simp at hi2
    have l2 : (A.headD []).length = m := by
      cases A with
      | nil => exact absurd rfl ne
      | cons a r => exact hA a (List.mem_cons_self ..)
    rw [e]
    walk_at "w"
    refine ⟨by rw [List.length_map]; omega, ?_⟩
    refine at0' ne ?_
    walk_at "w"
    refine ⟨by rw [List.length_map]; omega, ?_⟩
    rw [List.length_map, List.length_map, l1, l2]
    walk_at "w"
    exact hQ
  · walk_at "w"
    refine p_as_set (A := A) rfl few (len_ne hA hm) ?_
    walk_at "w"
    exact q
theorem p_chk {P : B → Rs → Prop} (hm : Mm m) (hA : Len m A) (hD : Len m D) (q : P (.d .none) t) : m_S__check_length C er Ex [.d (So C A), .d (So C D)] t P := by
  have hi := hm.hi
  unfold m_S__check_length
  walk_at "w"
  cases A with
  | nil => exact q
  | cons a r =>
    have e1 : (!(List.map iT (a :: r)).isEmpty) = true := rfl
    rw [e1]
    walk_at "w"
    cases D with
    | nil => exact q
    | cons d s =>
      have e2 : (!(List.map iT (d :: s)).isEmpty) = true := rfl
      rw [e2]
      walk_at "w"
      refine at0 ?_
      walk_at "w"
      refine ⟨by rw [List.length_map, hA a (List.mem_cons_self ..)]; omega, ?_⟩
      refine at0 ?_
      walk_at "w"
      refine ⟨by rw [List.length_map, hD d (List.mem_cons_self ..)]; omega, ?_⟩
      rw [List.length_map, List.length_map, hA a (List.mem_cons_self ..), hD d (List.mem_cons_self ..)]
      walk_at "w"
      exact q
theorem p_len {P : B → Rs → Prop} (few : A.length < 64) (q : P (.d (.int (A.length : Nat))) t) : m_S___len__ C [.d (So C A)] t P := by
  unfold m_S___len__
  walk_at "w"
  refine ⟨by rw [List.length_map]; omega, ?_⟩
  rw [List.length_map]
  exact q
theorem p_form {P : B → Rs → Prop} (q : P (.d (rT A)) t) : m_S_form C [.d (So C A)] t P := by
  unfold m_S_form
  walk_at "w"
  exact q
theorem p_rest {P : B → Rs → Prop} (hm : Mm m) (hA : Gd m n A) (hT : Gd m k T) (h0 : A ≠ []) (few : n < 64) (few2 : k < 64) (q : P (.d (So C (restS A T))) t) : m_S_rest_in C er Ex [.d (So C A), .d (So C T)] t P := by
  have l1 := hA.few
  have l2 := hT.few
  have g := restS_gd hA.len hT h0
  unfold m_S_rest_in
  walk_at "w"
  have e : (!(A.map iT).isEmpty) = true := by
    cases A with
    | nil => exact absurd rfl h0
    | cons a r => rfl
  rw [e]
  walk_at "w"
  refine p_chk hm hA.len hT.len ?_
  walk_at "w"
  refine p_rest_of hm hA.len hT.len h0 (by omega) (by omega) ?_
  walk_at "w"
  refine p_init hm g.len (by have := g.few; omega) ?_
  walk_at "w"
  rw [sdd_id g.asc]
  exact q
/-- the worth, or nothing -/
def woD (C : Addr) (A T : List (List Int)) : PyData := if restS A T = [] then .none else So C (restS (restS A T) T)
theorem p_worth {P : B → Rs → Prop} (hm : Mm m) (hA : Gd m n A) (hT : Gd m k T) (h0 : A ≠ []) (few : n < 64) (few2 : k < 64) (q : P (.d (woD C A T)) t) : m_S_worth_in C er Ex [.d (So C A), .d (So C T)] t P := by
  have g := restS_gd hA.len hT h0
  have gf := g.few
  unfold m_S_worth_in
  walk_at "w"
  refine p_rest hm hA hT h0 few few2 ?_
  walk_at "w"
  refine p_len (by omega) ?_
  walk_at "w"
  refine ⟨by omega, ?_⟩
  walk_at "w"
  unfold woD at q
  refine cond_ap (fun hc => ?_) fun hc => ?_
  · have hne : restS A T ≠ [] := fun z => by rw [z] at hc; simp at hc
    walk_at "w"
    refine p_rest hm g hT hne few2 few2 ?_
    walk_at "w"
    rw [if_neg hne] at q
    exact q
  · have he : restS A T = [] := by
      cases e : restS A T with
      | nil => rfl
      | cons a r => rw [e] at hc; simp at hc
    walk_at "w"
    rw [if_pos he] at q
    exact q
end
end K36
end
section
set_option maxRecDepth 100000
set_option maxHeartbeats 4000000
namespace K36
open PySem PySem.Spec PyProof.Rows L2 Dl Dw Dz Dy Dx
open Dw (ret)
local macro_rules | `(tactic| walk_at "w") => `(tactic| try simp only [bnd_ap, ret_ap, need_ap, op1_ap, op2_ap, dA_ap, rdA_ap, callN_ap, asD_d, asD_own, asO_own, asB_b, asT_ap, froz_ap, disp_ap, ifW_ap, andT_ap, orT_ap, notT_ap, andW_b, orW_b, thn_ap, joi_ap, upO_ap, fnW_ap, fnU_ap, compW_ap, compO_ap, optW_ap, itL_ap, itT_ap, rng1_ap, rng2_ap, slT_ap, slL_ap, oN_ap, oS_ap, consA_ap, catL_ap, two_ap, three_ap, twoL_ap, threeL_ap, oadd_i, osub_i, omul_i, oneg_i, olt_i, ole_i, ogt_i, onot_b, oisi_ap, otup_l, otup_t, oint_i, olen_t, olen_l, arg0_ap, arg1_ap, arg2_ap, arg3_ap, arg4_ap, arg5_ap, argR0_ap, argR1_ap, argR2_ap, argR3_ap, argR4_ap, dsOf, Option.map_some, Option.map_none, List.length_cons, List.length_nil, Nat.reduceAdd, Nat.reduceLeDiff, true_and, and_true, cond_t, cond_f, Bool.not_true, Bool.not_false, truD, oeq_ap, one_ap, eqvStr, eqvInt, eqvBool, shInt, shBool, and_self, isI_i, isB_i, isT_t, strOk, zipW_ap, asL_t, asL_l, oisN_t, oisN_n, onotN_n, asB_b, decide_true, decide_false, beq_self_eq_true, Bool.or_false, Bool.false_or, Bool.and_true, Bool.true_and, noD, comp2_ap, methW_ap, opW_ap, neW_ap, propW_ap, lenW_ap, isiW_ap, mkW_ap, fnI_ap, argI1_ap, raiW_ap, enumW_ap, isC_t, okr_t, okw_t, okc_t, fld_t, ocatT_t])
/-! ### what is raised -/
/-- an InvalidSums -/
def isE (er : Str → Addr) (wd : Str) (at_ : Int) : XD := ⟨er "InvalidSums", [(.str "at", .int at_), (.str "word", .str wd)]⟩
theorem told_isE (er : Str → Addr) (wd : Str) (i : Int) : told er (isE er wd i) = some (.tuple [.str "sums", .str wd, .int i]) := by
  unfold told isE
  rw [if_pos rfl]
  rfl
section
variable {t : Rs} {C : Addr} {er : Str → Addr} {Ex : XW} {A D : List (List Int)} {m k : Nat} {P : B → Rs → Prop}
/-- nonempty sets of sums of different lengths -/
structure Dif (A D : List (List Int)) (m k : Nat) : Prop where
  a : Len m A
  d : Len k D
  ne : m ≠ k
  sm : m ≤ 1000
  sk : k ≤ 1000
  fa : A.length < 64
  fd : D.length < 64
  na : A ≠ []
  nd : D ≠ []
theorem p_chkE (h : Dif A D m k) (q : Ex (isE er "length" (-1)) t) : m_S__check_length C er Ex [.d (So C A), .d (So C D)] t P := by
  obtain ⟨hA, hD, ne, h1, h2, _, _, na, nd⟩ := h
  unfold m_S__check_length
  walk_at "w"
  cases A with
  | nil => exact absurd rfl na
  | cons a r =>
    have e1 : (!(List.map iT (a :: r)).isEmpty) = true := rfl
    rw [e1]
    walk_at "w"
    cases D with
    | nil => exact absurd rfl nd
    | cons d s =>
      have e2 : (!(List.map iT (d :: s)).isEmpty) = true := rfl
      rw [e2]
      walk_at "w"
      have la := hA a (List.mem_cons_self ..)
      have ld := hD d (List.mem_cons_self ..)
      refine at0 ?_
      walk_at "w"
      refine ⟨by rw [List.length_map, la]; omega, ?_⟩
      refine at0 ?_
      walk_at "w"
      refine ⟨by rw [List.length_map, ld]; omega, ?_⟩
      rw [List.length_map, List.length_map, la, ld]
      have e3 : (!((m : Int) == (k : Int))) = true := by
        simp
        omega
      rw [e3]
      walk_at "w"
      exact ⟨_, rfl, rfl, by decide, q⟩
theorem Dif.symm (h : Dif A D m k) : Dif D A k m := ⟨h.d, h.a, fun e => h.ne e.symm, h.sk, h.sm, h.fd, h.fa, h.nd, h.na⟩
end
end K36
end
section
set_option maxRecDepth 100000
set_option maxHeartbeats 4000000
namespace K36
open PySem PySem.Spec PyProof.Rows L2 Dl Dw Dz Dy Dx
open Dw (ret)
section
variable {t : Rs} {C : Addr} {A T : List (List Int)}
theorem mulL_ap (f g : W PyData) (P : List PyData → Rs → Prop) : mulL f g t P = f t fun x t1 => (match x with | .list xs => (bnd g fun y => match y with | .int k => need (0 ≤ k ∧ k ≤ 1000 ∧ xs.length ≤ 1000) (Dw.ret (List.replicate k.toNat xs).flatten) | _ => bad) | _ => bad) t1 P := id rfl
theorem objS : objD C [(.str "_form", rT A)] = So C A := id rfl
theorem said_ap (told : XD → Option PyData) (ok : PyData → PyData) (m : XW → W PyData) (P : B → Rs → Prop) : saidW told ok m t P = ∀ (Ex : XW) (P1 : PyData → Rs → Prop), (∀ xd v t1, told xd = some v → P (.d v) t1 → Ex xd t1) → (∀ v t1, P (.d (ok v)) t1 → P1 v t1) → m Ex t P1 := id rfl
theorem oisN_S (P : PyData → Rs → Prop) : oisN (So C A) t P = P (.bool false) t := id rfl
theorem onotN_S (P : PyData → Rs → Prop) : onotN (So C A) t P = P (.bool true) t := id rfl
theorem wo_nil (h : restS A T = []) : woD C A T = .none := if_pos h
theorem wo_so (h : restS A T ≠ []) : woD C A T = So C (restS (restS A T) T) := if_neg h
theorem omod_i (i j : Int) (P : PyData → Rs → Prop) : omod (.int i) (.int j) t P = (j ≠ 0 ∧ P (.int (i.fmod j)) t) := id rfl
theorem shRowsL (a : List (List Int)) : SeqAt.shaped (.list (a.map iT)) = true := by
  refine shaped_of (by simp only [PyData.canLay0]; exact lay_rows a) ?_
  have h := dep_rows a
  simp only [PyData.depth]
  omega
theorem eqvRL (a b : List (List Int)) : PyData.eqv (.list (a.map iT)) (.list (b.map iT)) = decide (a = b) := by
  rw [PyData.eqv, eqvAll_rows]
theorem flat_rep (n : Nat) (x : PyData) : (List.replicate n [x]).flatten = List.replicate n x := by
  induction n with
  | zero => rfl
  | succ n ih => rw [List.replicate_succ, List.flatten_cons, ih]; rfl
theorem orep_ap (x : PyData) {k : Int} {n : Nat} (hk : k = (n : Int)) (h1 : 1 ≤ n) (h2 : n ≤ 1000) (Q : PyData → Rs → Prop) (q : Q (.tuple (List.replicate n x)) t) : orepT (.tuple [x]) (.int k) t Q := by
  subst hk
  refine ⟨⟨by simp, by omega, by omega, by simp⟩, ?_⟩
  rw [Int.toNat_natCast, flat_rep]
  exact q
theorem rngD_int (lo : Int) (n : Nat) : ∀ y ∈ rngD lo n, ∃ i : Int, y = .int i := fun y hy => by
  unfold rngD at hy
  obtain ⟨i, _, rfl⟩ := List.mem_map.mp hy
  exact ⟨_, rfl⟩
end
local macro_rules | `(tactic| walk_at "w") => `(tactic| try simp only [bnd_ap, ret_ap, need_ap, op1_ap, op2_ap, dA_ap, rdA_ap, callN_ap, asD_d, asD_own, asO_own, asB_b, asT_ap, froz_ap, disp_ap, ifW_ap, andT_ap, orT_ap, notT_ap, andW_b, orW_b, thn_ap, joi_ap, upO_ap, fnW_ap, fnU_ap, compW_ap, compO_ap, optW_ap, itL_ap, itT_ap, rng1_ap, rng2_ap, slT_ap, slL_ap, oN_ap, oS_ap, consA_ap, catL_ap, two_ap, three_ap, twoL_ap, threeL_ap, oadd_i, osub_i, omul_i, oneg_i, olt_i, ole_i, ogt_i, onot_b, oisi_ap, otup_l, otup_t, oint_i, olen_t, olen_l, arg0_ap, arg1_ap, arg2_ap, arg3_ap, arg4_ap, arg5_ap, argR0_ap, argR1_ap, argR2_ap, argR3_ap, argR4_ap, dsOf, Option.map_some, Option.map_none, List.length_cons, List.length_nil, Nat.reduceAdd, Nat.reduceLeDiff, true_and, and_true, cond_t, cond_f, Bool.not_true, Bool.not_false, truD, oeq_ap, one_ap, eqvStr, eqvInt, eqvBool, shInt, shBool, and_self, isI_i, isB_i, isT_t, strOk, zipW_ap, asL_t, asL_l, oisN_t, oisN_n, onotN_n, asB_b, decide_true, decide_false, beq_self_eq_true, Bool.or_false, Bool.false_or, Bool.and_true, Bool.true_and, noD, comp2_ap, methW_ap, opW_ap, neW_ap, propW_ap, lenW_ap, isiW_ap, mkW_ap, fnI_ap, argI1_ap, raiW_ap, enumW_ap, isC_t, okr_t, okw_t, okc_t, fld_t, ocatT_t, mulL_ap, objS, said_ap, oisN_S, onotN_S, omod_i, ointB_b, ointB_i])
section
variable {t : Rs} {C : Addr} {er : Str → Addr} {Ex : XW} {A D : List (List Int)} {m n k : Nat} {P : B → Rs → Prop}
theorem ne_e (h : A ≠ []) : (!(A.map iT).isEmpty) = true := by
  cases A with
  | nil => exact absurd rfl h
  | cons a r => rfl
theorem p_restE (h : Dif A D m k) (q : Ex (isE er "length" (-1)) t) : m_S_rest_in C er Ex [.d (So C A), .d (So C D)] t P := by
  unfold m_S_rest_in
  walk_at "w"
  rw [ne_e h.na]
  walk_at "w"
  exact p_chkE h q
theorem p_restN (q : Ex (isE er "empty" (-1)) t) : m_S_rest_in C er Ex [.d (So C []), .d (So C D)] t P := by
  unfold m_S_rest_in
  walk_at "w"
  rw [show (!(List.map iT []).isEmpty) = false from rfl]
  walk_at "w"
  exact ⟨_, rfl, rfl, by decide, q⟩
theorem p_worthE (h : Dif A D m k) (q : Ex (isE er "length" (-1)) t) : m_S_worth_in C er Ex [.d (So C A), .d (So C D)] t P := by
  unfold m_S_worth_in
  walk_at "w"
  exact p_restE h q
theorem p_worthN (q : Ex (isE er "empty" (-1)) t) : m_S_worth_in C er Ex [.d (So C []), .d (So C D)] t P := by
  unfold m_S_worth_in
  walk_at "w"
  exact p_restN q
def badD (wd : Str) : PyData := .tuple [.str "sums", .str wd, .int (-1)]
theorem p_refused (hm : Mm m) (hm2 : m ≤ 2) (gA : Gd m n A) (few : n < 64) (nA : A ≠ []) (q : P (.d (.bool true)) t) : m_l_are_refused C er (told er) okR [.d (rT A), .d (.int (m : Nat))] t P := by
  have hlo := hm.lo
  have lA := gA.few
  unfold m_l_are_refused
  walk_at "w"
  refine orep_ap (n := m + 1) _ (by omega) (by omega) (by omega) _ ?_
  have ew : PyData.tuple [.tuple (List.replicate (m + 1) (.int 0))] = rT [List.replicate (m + 1) 0] := by simp [rT, iT, List.map_replicate]
  rw [ew]
  have lW : Len (m + 1) [List.replicate (m + 1) (0 : Int)] := fun r hr => by rw [List.mem_singleton.mp hr]; simp
  refine p_init (m := m + 1) ⟨by omega, by omega⟩ lW (by simp) ?_
  rw [sdd_id (A := [List.replicate (m + 1) (0 : Int)]) (List.pairwise_singleton _ _)]
  walk_at "w"
  refine p_init (A := []) (m := m) hm (fun r hr => by cases hr) (by simp) ?_
  rw [show sdd ([] : List (List Int)) = [] from rfl]
  walk_at "w"
  have dif : Dif A [List.replicate (m + 1) (0 : Int)] m (m + 1) := ⟨gA.len, lW, by omega, by omega, by omega, by omega, by simp, nA, by simp⟩
  intro E1 P1 hE1 _
  refine p_restN (hE1 _ _ _ (told_isE er "empty" (-1)) ?_)
  walk_at "w"
  intro E2 P2 hE2 _
  refine p_worthN (hE2 _ _ _ (told_isE er "empty" (-1)) ?_)
  walk_at "w"
  refine ⟨by decide, ?_⟩
  intro E3 P3 hE3 _
  refine p_init hm gA.len (by omega) ?_
  rw [sdd_id gA.asc]
  walk_at "w"
  refine p_restE dif (hE3 _ _ _ (told_isE er "length" (-1)) ?_)
  walk_at "w"
  refine ⟨by decide, ?_⟩
  intro E4 P4 hE4 _
  refine p_init hm gA.len (by omega) ?_
  rw [sdd_id gA.asc]
  walk_at "w"
  refine p_worthE dif (hE4 _ _ _ (told_isE er "length" (-1)) ?_)
  walk_at "w"
  refine ⟨by decide, ?_⟩
  intro E5 P5 hE5 _
  refine p_init hm gA.len (by omega) ?_
  rw [sdd_id gA.asc]
  walk_at "w"
  refine p_restE dif.symm (hE5 _ _ _ (told_isE er "length" (-1)) ?_)
  walk_at "w"
  refine ⟨by decide, ?_⟩
  intro E6 P6 hE6 _
  refine p_init hm gA.len (by omega) ?_
  rw [sdd_id gA.asc]
  walk_at "w"
  refine p_worthE dif.symm (hE6 _ _ _ (told_isE er "length" (-1)) ?_)
  walk_at "w"
  refine ⟨by decide, ⟨by decide, by decide⟩, ⟨by decide, by decide⟩, by decide, ⟨by decide +kernel, by decide +kernel⟩, ?_⟩
  have e : PyData.eqv (.list [badD "empty", badD "empty", badD "length", badD "length", badD "length", badD "length"]) (.list [badD "empty", badD "empty", badD "length", badD "length", badD "length", badD "length"]) = true := by simp [badD, PyData.eqv, PyData.eqvAll]
  have q2 : P (B.d (.bool (PyData.eqv (.list [badD "empty", badD "empty", badD "length", badD "length", badD "length", badD "length"]) (.list [badD "empty", badD "empty", badD "length", badD "length", badD "length", badD "length"])))) t := by
    rw [e]
    exact q
  exact q2
end
end K36
end
section
set_option maxRecDepth 100000
set_option maxHeartbeats 4000000
namespace K36
open PySem PySem.Spec PyProof.Rows L2 Dl
local macro_rules | `(tactic| walk_at "nm") => `(tactic| first | refine jd_name 0 rfl ?_ | refine jd_name 1 rfl ?_ | refine jd_name 2 rfl ?_ | refine jd_name 3 rfl ?_ | refine jd_name 4 rfl ?_ | refine jd_name 5 rfl ?_ | refine jd_name 6 rfl ?_ | refine jd_name 7 rfl ?_ | refine jd_name 8 rfl ?_ | refine jd_name 9 rfl ?_ | refine jd_name 10 rfl ?_ | refine jd_name 11 rfl ?_ | refine jd_name 12 rfl ?_ | refine jd_name 13 rfl ?_)
local macro_rules | `(tactic| walk_at "sub") => `(tactic| fail)
local macro_rules | `(tactic| walk_at "call") => `(tactic| first | refine jd_len (by assumption) ?_ | refine jd_intc (by assumption) ?_ | refine jd_tupc (by assumption) ?_)
local macro_rules | `(tactic| walk_at "cmp") => `(tactic| first | refine jd_eq (by assumption) ?_ | refine jd_ne (by assumption) ?_)
local macro_rules | `(tactic| walk_at "cmpT") => `(tactic| first | refine jt_eq (by assumption) ?_ | refine jt_ne (by assumption) ?_)
local macro_rules | `(tactic| walk_at "callT") => `(tactic| refine jt_val ?_)
local macro_rules | `(tactic| walk_at "je") => `(tactic| first
  | with_reducible refine ⟨_, rfl, ?_⟩
  | (refine g_name ?_; walk_at "nm") | refine jd_int ?_ | refine jd_str ?_
  | (refine g_args ?_; refine ja_cons ?_) | refine ja_nil ?_ | refine jd_tup ?_
  | (refine g_call ?_; walk_at "call") | (refine g_sub ?_; walk_at "sub")
  | refine jd_add ?_ | refine jd_sub ?_ | refine jd_mul ?_ | refine jd_fdiv ?_ | refine jd_mod ?_ | refine jd_pow ?_
  | refine jt_lt ?_ | refine jt_le ?_ | refine jt_gt ?_ | refine jt_ge ?_ | refine jt_isN ?_ | refine jt_notN ?_ | refine jt_not ?_ | refine jw_and ?_ | refine jw_or ?_ | refine jw_and1 ?_ | refine jw_or1 ?_
  | (refine g_cmpT ?_; walk_at "cmpT") | (refine g_callT ?_; walk_at "callT")
  | refine jd_lt ?_ | refine jd_le ?_ | refine jd_gt ?_ | refine jd_ge ?_ | refine jd_isN ?_ | refine jd_notN ?_ | (refine g_cmp ?_; walk_at "cmp")
  | refine jd_bl ?_ | refine jd_non ?_
  | refine jd_if ?_ | refine jd_and ?_ | refine jd_or ?_ | refine jd_one ?_ | refine jd_not ?_ | refine jd_neg ?_
  | refine jo_none ?_ | refine jo_some ?_
  | refine jss_nil ?_ | refine jss_ret ?_ | refine jss_if0 ?_ | refine jss_if ?_ | refine jt_bop ?_
  | with_reducible refine And.intro (by assumption) ?_ | refine And.intro (show List.length _ = _ from rfl) ?_ | refine And.intro (Or.inl (by decide)) ?_ | refine And.intro (by decide : _ ≠ _) ?_ | refine And.intro ⟨by decide, by decide⟩ ?_ | refine And.intro ⟨by decide, by decide, by decide⟩ ?_
  | (dsimp only; first | refine jss_nil ?_ | refine jss_ret ?_))
local macro_rules | `(tactic| walk_at "sub") => `(tactic| first | refine jd_rdC 0 rfl ?_ | refine jd_rdN 0 (Or.inl rfl) rfl ?_ | refine jd_rdN 0 (Or.inr (Or.inl rfl)) rfl ?_ | refine jd_rdN 0 (Or.inr (Or.inr rfl)) rfl ?_)
local macro_rules | `(tactic| walk_at "rs") => `(tactic| first | refine jss_rdSet 0 (Or.inl rfl) rfl ?_ | refine jss_rdSet 0 (Or.inr (Or.inl rfl)) rfl ?_ | refine jss_rdSet 0 (Or.inr (Or.inr rfl)) rfl ?_)
local macro_rules | `(tactic| walk_at "sub") => `(tactic| first | refine jd_rdC 0 rfl ?_ | refine jd_rdN 0 (Or.inl rfl) rfl ?_ | refine jd_rdN 0 (Or.inr (Or.inl rfl)) rfl ?_ | refine jd_rdN 0 (Or.inr (Or.inr rfl)) rfl ?_)
local macro_rules | `(tactic| walk_at "rs") => `(tactic| first | refine jss_rdSet 0 (Or.inl rfl) rfl ?_ | refine jss_rdSet 0 (Or.inr (Or.inl rfl)) rfl ?_ | refine jss_rdSet 0 (Or.inr (Or.inr rfl)) rfl ?_)
section
variable {P : Program} {w : World} {K : PySem.W.Frag} {mg : Str → Option Value} {base : Heap}
/-- a draw below m: any number may come -/
abbrev S_draw : List B → Rs → (B → Rs → Prop) → Prop := fun bs t Q => ∃ m : Int, bs = [.rd, .d (.int m)] ∧ 0 < m ∧ m < 1073741824 ∧ t.ns.length ≤ 63 ∧ 0 ≤ t.draws ∧ t.draws < 100000000 ∧
  ∀ (i : Int) (t' : Rs), 0 ≤ i → i < m → t'.ns = t.ns → t'.draws = t.draws + 1 → Q (.d (.int i)) t'
theorem ok_draw {T : List (Addr × Str)} {f : Addr} {fd : FuncData} {k : Nat} (F : Fun K "_law_draw" "_law_draw" s__law_draw f fd) (u : Bu mg) : FnOk P w K mg base CX0 (k + 1) f fd ["_law_source_here", "_law_bound"] (spD (kkOf P w K) (W4T T) 2 S_draw) :=
  okD F sc__law_draw rfl fun cdv A outer s H E M bs t Q hr hl h => by
    obtain ⟨m, rfl, m0, m1, hn, d0, d1, q⟩ := h
    have nd := sc__law_draw.nd
    have step3 : ∀ t1 : Rs, t1.ns = t.ns → t1.draws = t.draws + 1 → ∀ i : Int, 0 ≤ i → i < m → Q (.d (.int i)) t1 := fun t1 e1 e2 i a b => q i t1 a b e1 e2
    have mn : m ≠ 0 := by omega
    have mc : ∀ i, CDivN i m := fun i => ⟨by omega, by omega⟩
    refine jss_set 2 nd ?_
    repeat walk_at "je"
    walk_at "rs"
    repeat walk_at "je"
    refine ⟨fun h1 => ?_, fun h1 => ?_⟩
    · refine jss_set 3 nd ?_
      repeat walk_at "je"
      walk_at "rs"
      repeat walk_at "je"
      refine ⟨mc _, ?_⟩
      repeat walk_at "je"
      exact step3 _ (by rfl) (by rfl) _ (fmod_pos m0).1 (fmod_pos m0).2
    · have tail : ∀ (cell a : Int) (t2 : Rs), t2.ns = t.ns → t2.draws = t.draws + 1 → JSs M (X := Xo P w K mg base ["_law_source_here", "_law_bound", "_law_turn", "_law_digit", "_law_at", "_law_cell", "_law_mixed"] "_law_draw" s__law_draw f cdv A outer s H E) ((defBody s__law_draw).drop 7) [.rd, .d (.int m), .d (.int (t.draws + 1)), .un, .d (.int a), .d (.int cell), .un] t2 { nx := fun _ t' => Q (.d .none) t', rt := Q } := by
        intro cell a t2 e1 e2
        refine jss_set 6 nd ?_
        repeat walk_at "je"
        have hc := fmod_pos (i := cell) (j := 1000333) (by decide)
        refine ⟨⟨by decide, by decide, by omega⟩, ?_⟩
        repeat walk_at "je"
        have hm := fmod_pos (i := (cell.fmod 1000333 + 8731 * (t.draws + 1) + 107) ^ (3 : Int).toNat) (j := 2147483647) (by decide)
        generalize ((cell.fmod 1000333 + 8731 * (t.draws + 1) + 107) ^ (3 : Int).toNat).fmod 2147483647 = mx at hm ⊢
        refine ⟨⟨by decide, by decide, by omega⟩, ?_⟩
        repeat walk_at "je"
        exact step3 _ (by exact e1) (by exact e2) _ (fmod_pos m0).1 (fmod_pos m0).2
      have rest : ∀ (cell a : Int) (t1 : Rs), t1.ns = t.ns → t1.draws = t.draws + 1 → JSs M (X := Xo P w K mg base ["_law_source_here", "_law_bound", "_law_turn", "_law_digit", "_law_at", "_law_cell", "_law_mixed"] "_law_draw" s__law_draw f cdv A outer s H E) ((defBody s__law_draw).drop 6) [.rd, .d (.int m), .d (.int (t.draws + 1)), .un, .d (.int a), .d (.int cell), .un] t1 { nx := fun _ t' => Q (.d .none) t', rt := Q } := by
        intro cell a t1 e1 e2
        repeat walk_at "je"
        refine ⟨fun h2 => ?_, fun h2 => ⟨fun z => (by cases z), fun _ => tail _ _ _ e1 e2⟩⟩
        repeat walk_at "je"
        refine ⟨by rw [List.length_map]; show t1.ns.length ≤ _; rw [e1]; omega, ?_⟩
        repeat walk_at "je"
        refine ⟨fun h3 => ?_, fun h3 => tail _ _ _ e1 e2⟩
        walk_at "rs"
        repeat walk_at "je"
        refine ⟨mc _, ?_⟩
        repeat walk_at "je"
        exact step3 _ (by exact e1) (by exact e2) _ (fmod_pos m0).1 (fmod_pos m0).2
      refine jss_set 4 nd ?_
      repeat walk_at "je"
      walk_at "rs"
      repeat walk_at "je"
      refine jss_set 5 nd ?_
      repeat walk_at "je"
      refine JL.toD (jl_lst ?_)
      repeat walk_at "je"
      refine ⟨[], rfl, by decide, shaped_ints _, by decide +kernel, fun h2 => ?_, fun h2 => ?_⟩
      rotate_left
      · refine jd_int ?_
        exact rest 36 t.nxt ((t.put 3 (t.draws + 1)).put 1 (t.nxt + 1)) (by rfl) (by rfl)
      have hne : t.ns ≠ [] := fun z => by
        have h2' : (!PyData.eqv (.list (t.ns.map PyData.int)) (.list [])) = true := h2
        rw [z] at h2'
        revert h2'
        decide +kernel
      have hpos : 0 < t.ns.length := List.length_pos_iff.mpr hne
      have hb := fmod_pos (i := t.nxt) (j := (t.ns.length : Int)) (by omega)
      refine jd_ixL ?_
      repeat walk_at "je"
      refine ⟨by rw [List.length_map]; show t.ns.length ≤ _; omega, ?_⟩
      obtain ⟨j, ej⟩ : ∃ j : Nat, t.nxt.fmod (t.ns.length : Int) = (j : Int) := ⟨_, (Int.toNat_of_nonneg hb.1).symm⟩
      have hj : j < t.ns.length := by omega
      refine ⟨_, rfl, by rw [List.length_map]; show ((t.ns.length : Nat) : Int) ≠ 0; omega, (t.nxt.fmod (t.ns.length : Int)), .int t.ns[j], ?_, ?_, ?_⟩
      · rw [List.length_map]
        rfl
      · rw [ej]
        refine atI_nat ?_
        show (t.ns.map PyData.int)[j]? = _
        rw [List.getElem?_map, List.getElem?_eq_getElem hj]
        rfl
      · exact rest t.ns[j] t.nxt ((t.put 3 (t.draws + 1)).put 1 (t.nxt + 1)) (by rfl) (by rfl)
end
end K36
end
section
set_option maxRecDepth 100000
set_option maxHeartbeats 4000000
namespace K36
open PySem PySem.Spec PyProof.Rows L2 Dl Dw Dz Dy Dx
open Dw (ret)
local macro_rules | `(tactic| walk_at "w") => `(tactic| try simp only [bnd_ap, ret_ap, need_ap, op1_ap, op2_ap, dA_ap, rdA_ap, callN_ap, asD_d, asD_own, asO_own, asB_b, asT_ap, froz_ap, disp_ap, ifW_ap, andT_ap, orT_ap, notT_ap, andW_b, orW_b, thn_ap, joi_ap, upO_ap, fnW_ap, fnU_ap, compW_ap, compO_ap, optW_ap, itL_ap, itT_ap, rng1_ap, rng2_ap, slT_ap, slL_ap, oN_ap, oS_ap, consA_ap, catL_ap, two_ap, three_ap, twoL_ap, threeL_ap, oadd_i, osub_i, omul_i, oneg_i, olt_i, ole_i, ogt_i, onot_b, oisi_ap, otup_l, otup_t, oint_i, olen_t, olen_l, arg0_ap, arg1_ap, arg2_ap, arg3_ap, arg4_ap, arg5_ap, argR0_ap, argR1_ap, argR2_ap, argR3_ap, argR4_ap, dsOf, Option.map_some, Option.map_none, List.length_cons, List.length_nil, Nat.reduceAdd, Nat.reduceLeDiff, true_and, and_true, cond_t, cond_f, Bool.not_true, Bool.not_false, truD, oeq_ap, one_ap, eqvStr, eqvInt, eqvBool, shInt, shBool, and_self, isI_i, isB_i, isT_t, strOk, zipW_ap, asL_t, asL_l, oisN_t, oisN_n, onotN_n, asB_b, decide_true, decide_false, beq_self_eq_true, Bool.or_false, Bool.false_or, Bool.and_true, Bool.true_and, noD, comp2_ap, methW_ap, opW_ap, neW_ap, propW_ap, lenW_ap, isiW_ap, mkW_ap, fnI_ap, argI1_ap, raiW_ap, enumW_ap, isC_t, okr_t, okw_t, okc_t, fld_t, ocatT_t, mulL_ap, objS, said_ap, oisN_S, onotN_S, omod_i, ointB_b, ointB_i])
section
variable {t : Rs} {C : Addr} {er : Str → Addr} {A D : List (List Int)} {m n k : Nat} {P : B → Rs → Prop}
theorem at_i {a : List Int} {i : Nat} (h : i < a.length) (Q : PyData → Rs → Prop) (q : Q (.int (a.getD i 0)) t) : oix (iT a) (.int (0 + (i : Nat))) t Q := by
  show (match atI (a.map PyData.int) (0 + (i : Nat) : Int) with | some z => ret z | none => (bad : W PyData)) t Q
  rw [Int.zero_add, show atI (a.map PyData.int) ((i : Nat) : Int) = some (.int (a.getD i 0)) from atI_nat (by simp [List.getD, List.getElem?_map, List.getElem?_eq_getElem h])]
  exact q
theorem p_plus {a b : List Int} (ha : a.length = m) (hb : b.length = m) (hm : m ≤ 1000) (q : P (.d (iT (vad a b))) t) : m_l_plus [.d (iT a), .d (iT b)] t P := by
  unfold m_l_plus
  walk_at "w"
  refine ⟨by rw [List.length_map, ha]; omega, ?_⟩
  rw [List.length_map, ha]
  refine ⟨⟨by omega, by omega⟩, by rw [rngD_len]; simp; omega, ?_⟩
  unfold rngD
  refine map_on (h := fun i => .int (a.getD i 0 + b.getD i 0)) (fun i hi Q hQ => ?_) ?_
  · have hi := List.mem_range.mp hi
    have hi : i < m := by simpa using hi
    walk_at "w"
    refine at_i (by omega) _ ?_
    refine at_i (by omega) _ ?_
    walk_at "w"
    exact hQ
  · walk_at "w"
    have e2 : ((List.range ((m : Int).toNat)).map fun i => PyData.int (a.getD i 0 + b.getD i 0)) = (vad a b).map PyData.int := by
      have : (List.range ((m : Int).toNat)).map (fun i => PyData.int (a.getD i 0 + b.getD i 0)) = ((List.range m).map fun i => a.getD i 0 + b.getD i 0).map PyData.int := by rw [List.map_map]; rfl
      rw [this]
      congr 1
      unfold vad
      refine List.ext_getElem (by simp [ha, hb]) fun i h1 h2 => ?_
      have hi : i < m := by simpa using h1
      simp [List.getD, List.getElem?_eq_getElem (by omega : i < a.length), List.getElem?_eq_getElem (by omega : i < b.length)]
    rw [e2]
    exact q
theorem p_minus {a b : List Int} (ha : a.length = m) (hb : b.length = m) (hm : m ≤ 1000) (q : P (.d (iT (vsb a b))) t) : m_l_minus [.d (iT a), .d (iT b)] t P := by
  unfold m_l_minus
  walk_at "w"
  refine ⟨by rw [List.length_map, ha]; omega, ?_⟩
  rw [List.length_map, ha]
  refine ⟨⟨by omega, by omega⟩, by rw [rngD_len]; simp; omega, ?_⟩
  unfold rngD
  refine map_on (h := fun i => .int (a.getD i 0 - b.getD i 0)) (fun i hi Q hQ => ?_) ?_
  · have hi := List.mem_range.mp hi
    have hi : i < m := by simpa using hi
    walk_at "w"
    refine at_i (by omega) _ ?_
    refine at_i (by omega) _ ?_
    walk_at "w"
    exact hQ
  · walk_at "w"
    have e2 : ((List.range ((m : Int).toNat)).map fun i => PyData.int (a.getD i 0 - b.getD i 0)) = (vsb a b).map PyData.int := by
      have : (List.range ((m : Int).toNat)).map (fun i => PyData.int (a.getD i 0 - b.getD i 0)) = ((List.range m).map fun i => a.getD i 0 - b.getD i 0).map PyData.int := by rw [List.map_map]; rfl
      rw [this]
      congr 1
      unfold vsb
      refine List.ext_getElem (by simp [ha, hb]) fun i h1 h2 => ?_
      have hi : i < m := by simpa using h1
      simp [List.getD, List.getElem?_eq_getElem (by omega : i < a.length), List.getElem?_eq_getElem (by omega : i < b.length)]
    rw [e2]
    exact q
theorem p_draw {P : B → Rs → Prop} {i : Int} (h : FrV (n + 1) t) (h0 : 0 < i) (h1 : i < 1000000) (q : ∀ (j : Int) (t' : Rs), 0 ≤ j → j < i → FrV n t' → P (.d (.int j)) t') : m_l_draw [.rd, .d (.int i)] t P := drawV_ap h h0 (by omega) q
theorem p_lot {P : B → Rs → Prop} (hm : Mm m) (hk : 0 < k ∧ k ≤ 6) (h : FrV (n + 19) t) (q : ∀ (A : List (List Int)) (t' : Rs), Gd m k A → A ≠ [] → FrV n t' → P (.d (rT A)) t') : m_l_lot [.rd, .d (.int (m : Nat)), .d (.int (k : Nat))] t P := by
  have hlo := hm.lo
  have hhi := hm.hi
  unfold m_l_lot
  walk_at "w"
  refine p_draw (n := n + 18) h (by omega) (by omega) fun i t1 i0 i1 h1 => ?_
  walk_at "w"
  refine ⟨⟨by omega, by omega⟩, ?_⟩
  refine for_cps (fun r s t2 => FrV (n + 3 * r.length) t2 ∧ ∃ L : List (List Int), s = L.map iT ∧ Len m L ∧ L.length + r.length = (1 + i).toNat) (fun x r s t2 ⟨h2, L, es, hL, hl⟩ Q hQ => ?_) (fun s t2 ⟨h2, L, es, hL, hl⟩ => ?_) _ _ _ ⟨h1.mono (by rw [rngD_len]; omega), [], rfl, fun r hr => (by cases hr), by rw [rngD_len]; simp⟩
  · subst es
    rw [List.length_cons] at h2 hl
    walk_at "w"
    refine ⟨⟨by omega, by omega⟩, by rw [rngD_len]; omega, ?_⟩
    refine map_cps (fun r2 acc t3 => FrV (n + 3 * r.length + r2.length) t3 ∧ ∃ v : List Int, acc = v.map .int ∧ v.length + r2.length = m) (fun x2 r2 acc t3 ⟨h3, v, ev, vl⟩ Q2 hQ2 => ?_) _ [] _ _ ⟨h2.mono (by rw [rngD_len]; omega), [], rfl, by rw [rngD_len]; simp⟩ fun ys t3 ⟨h3, v, ev, vl⟩ => ?_
    · rw [List.nil_append] at ev
      subst ev
      walk_at "w"
      refine ⟨by rw [List.length_map]; omega, ?_⟩
      refine hQ _ t3 ⟨h3.mono (by omega), L ++ [v], by rw [List.map_append]; rfl, fun r hr => ?_, by rw [List.length_append]; simp; omega⟩
      rcases List.mem_append.mp hr with hr | hr
      · exact hL r hr
      · rw [List.mem_singleton.mp hr]
        simpa using vl
    · walk_at "w"
      rw [List.length_cons] at h3 vl
      refine p_draw (n := n + 3 * r.length + r2.length) (h3.mono (by omega)) (by omega) (by omega) fun j t4 _ _ h4 => ?_
      walk_at "w"
      exact hQ2 _ t4 ⟨h4, v ++ [j - 2], by rw [ev, List.map_append]; rfl, by rw [List.length_append]; simp; omega⟩
  · subst es
    have hl' : L.length = (1 + i).toNat := by simpa using hl
    have hne : L ≠ [] := fun z => by subst z; simp at hl'; omega
    walk_at "w"
    rw [sdQ_ap]
    walk_at "w"
    simp only [seqD, Option.bind_some, intRows_rT, need_ap, ret_ap]
    refine ⟨⟨by omega, len_ne hL hm⟩, ?_⟩
    walk_at "w"
    refine q (sdd L) t2 (sdd_gd hL (by omega)) (fun z => ?_) (h2.mono (by omega))
    cases L with
    | nil => exact hne rfl
    | cons a r =>
      have : a ∈ sdd (a :: r) := mem_sdd.mpr (List.mem_cons_self ..)
      rw [z] at this
      cases this
end
end K36
end
section
set_option maxRecDepth 100000
set_option maxHeartbeats 4000000
namespace K36
open PySem PySem.Spec PyProof.Rows L2 Dl Dw Dz Dy Dx
open Dw (ret)
local macro_rules | `(tactic| walk_at "w") => `(tactic| try simp only [bnd_ap, ret_ap, need_ap, op1_ap, op2_ap, dA_ap, rdA_ap, callN_ap, asD_d, asD_own, asO_own, asB_b, asT_ap, froz_ap, disp_ap, ifW_ap, andT_ap, orT_ap, notT_ap, andW_b, orW_b, thn_ap, joi_ap, upO_ap, fnW_ap, fnU_ap, compW_ap, compO_ap, optW_ap, itL_ap, itT_ap, rng1_ap, rng2_ap, slT_ap, slL_ap, oN_ap, oS_ap, consA_ap, catL_ap, two_ap, three_ap, twoL_ap, threeL_ap, oadd_i, osub_i, omul_i, oneg_i, olt_i, ole_i, ogt_i, onot_b, oisi_ap, otup_l, otup_t, oint_i, olen_t, olen_l, arg0_ap, arg1_ap, arg2_ap, arg3_ap, arg4_ap, arg5_ap, argR0_ap, argR1_ap, argR2_ap, argR3_ap, argR4_ap, dsOf, Option.map_some, Option.map_none, List.length_cons, List.length_nil, Nat.reduceAdd, Nat.reduceLeDiff, true_and, and_true, cond_t, cond_f, Bool.not_true, Bool.not_false, truD, oeq_ap, one_ap, eqvStr, eqvInt, eqvBool, shInt, shBool, and_self, isI_i, isB_i, isT_t, strOk, zipW_ap, asL_t, asL_l, oisN_t, oisN_n, onotN_n, asB_b, decide_true, decide_false, beq_self_eq_true, Bool.or_false, Bool.false_or, Bool.and_true, Bool.true_and, noD, comp2_ap, methW_ap, opW_ap, neW_ap, propW_ap, lenW_ap, isiW_ap, mkW_ap, fnI_ap, argI1_ap, raiW_ap, enumW_ap, isC_t, okr_t, okw_t, okc_t, fld_t, ocatT_t, mulL_ap, objS, said_ap, oisN_S, onotN_S, omod_i, ointB_b, ointB_i])
/-! ### the keys -/
def keyR (r : List Int) : NestedKey := .tup (r.map .num)
theorem datas_nums : ∀ r : List Int, NestedKey.datas (r.map NestedKey.num) = r.map PyData.int
  | [] => rfl
  | i :: r => by rw [List.map_cons, NestedKey.datas, NestedKey.data, datas_nums r]; rfl
theorem data_keyR (r : List Int) : (keyR r).data = iT r := by
  unfold keyR
  rw [NestedKey.data, datas_nums]
theorem depth_nums : ∀ r : List Int, NestedKey.depthAll (r.map NestedKey.num) = 0
  | [] => rfl
  | i :: r => by rw [List.map_cons, NestedKey.depthAll, depth_nums r, NestedKey.depth]; rfl
theorem depth_keyR (r : List Int) : (keyR r).depth ≤ 8 := by
  unfold keyR
  rw [NestedKey.depth, depth_nums]
  decide
theorem keyR_inj {a b : List Int} (h : keyR a = keyR b) : a = b := by
  have e := congrArg NestedKey.data h
  rw [data_keyR, data_keyR] at e
  injection e with e
  have e2 := congrArg intsOf e
  rw [intsOf_map, intsOf_map] at e2
  exact Option.some.inj e2
theorem mem_keys {a : List Int} {R : List (List Int)} : decide (keyR a ∈ R.map keyR) = decide (a ∈ R) := by
  rw [decide_eq_decide, List.mem_map]
  exact ⟨fun ⟨b, hb, e⟩ => keyR_inj e ▸ hb, fun h => ⟨a, h, rfl⟩⟩
theorem asc_nodup {L : List (List Int)} (h : Asc L) : L.Nodup := h.imp fun {a b} e z => by
  subst z
  rw [lexI_irr] at e
  cases e
theorem nodup_keys {R : List (List Int)} (h : R.Nodup) : (R.map keyR).Nodup := List.pairwise_map.mpr (h.imp fun {a b} ne e => ne (keyR_inj e))
section
variable {t : Rs} {C : Addr} {er : Str → Addr} {A T : List (List Int)} {m n k : Nat} {P : B → Rs → Prop}
theorem dct_of {R : List (List Int)} {Q : PyData → Rs → Prop} (h : R.Nodup) (few : R.length ≤ 1000) (q : Q (dctD ((R.map keyR).map NestedKey.data)) t) : odctW (.list (R.map fun r => .tuple [iT r, .bool true])) t Q :=
  ⟨R.map keyR, by rw [List.map_map]; congr 1; exact List.map_congr_left fun r _ => by simp only [Function.comp_def, data_keyR], nodup_keys h, by rw [List.length_map]; exact few, fun k hk => by
    obtain ⟨r, _, rfl⟩ := List.mem_map.mp hk
    exact ⟨depth_keyR r, _, rfl⟩, q⟩
theorem in_dct {a : List Int} {R : List (List Int)} {Q : PyData → Rs → Prop} (q : Q (.bool (!decide (a ∈ R))) t) : oinD true (iT a) (dctD ((R.map keyR).map NestedKey.data)) t Q :=
  ⟨keyR a, R.map keyR, (data_keyR a).symm, ⟨_, rfl⟩, depth_keyR a, rfl, fun k hk => by
    obtain ⟨r, _, rfl⟩ := List.mem_map.mp hk
    exact depth_keyR r, by rw [if_pos rfl, mem_keys]; exact q⟩
theorem fil_not {α : Type} {p : α → Bool} : ∀ {l : List α}, (decide (l.filter (fun x => !p x) = [])) = l.all p
  | [] => rfl
  | x :: l => by
    have ih := fil_not (p := p) (l := l)
    cases e : p x with
    | true => simp [e, ← ih]
    | false => simp [e]
theorem srt_ap (f : W PyData) (P : List PyData → Rs → Prop) : srtW f t P = f t fun x t1 => (match x with
  | .list xs => (match intRows xs with
    | some nss => need (nss.length ≤ 1000 ∧ nss.Nodup ∧ ∀ ns ∈ nss, ns ≠ []) (Dw.ret ((sdd nss).map iRow))
    | none => (bad : W (List PyData)))
  | _ => bad) t1 P := id rfl
theorem head_len (hA : Len m A) (h0 : A ≠ []) : (A.headD []).length = m := by
  cases A with
  | nil => exact absurd rfl h0
  | cons a r => exact hA a (List.mem_cons_self ..)
theorem p_left (hm : Mm m) (hA : Len m A) (gT : Gd m k T) (h0 : A ≠ []) (few : k < 64) (few2 : A.length < 64) (q : P (.d (rT (restS A T))) t) : m_l_left [.d (rT A), .d (rT T)] t P := by
  have hi := hm.hi
  have lT := gT.few
  have hh := head_len hA h0
  unfold m_l_left
  walk_at "w"
  refine ⟨by rw [List.length_map]; omega, ?_⟩
  refine map_on (h := fun r => .tuple [iT r, .bool true]) (fun r hr Q hQ => ?_) ?_
  · walk_at "w"
    exact hQ
  walk_at "w"
  refine dct_of (asc_nodup gT.asc) (by omega) ?_
  walk_at "w"
  refine for_cps (fun r s t2 => t2 = t ∧ ∃ pre post : List (List Int), pre ++ post = T ∧ r = post.map iT ∧ s = (((pre.map fun x => vsb x (A.headD [])).filter fun y => A.all fun o => decide (vad y o ∈ T)).map iT)) (fun x r s t2 ⟨et, pre, post, e1, e2, e3⟩ Q hQ => ?_) (fun s t2 ⟨et, pre, post, e1, e2, e3⟩ => ?_) _ _ _ ⟨rfl, [], T, rfl, rfl, rfl⟩
  · subst et e3
    cases post with
    | nil => cases e2
    | cons y post =>
      rw [List.map_cons] at e2
      injection e2 with e2 e4
      subst e2 e4
      have hy : y ∈ T := by rw [← e1]; simp
      walk_at "w"
      refine at0' h0 ?_
      walk_at "w"
      refine p_minus (gT.len y hy) hh (by omega) ?_
      walk_at "w"
      refine ⟨by rw [List.length_map]; omega, ?_⟩
      refine fil_on (h := iT) (c := fun o => !decide (vad (vsb y (A.headD [])) o ∈ T)) (fun o ho S hS => ?_) ?_
      · walk_at "w"
        refine p_plus (vsb_len (gT.len y hy) hh) (hA o ho) (by omega) ?_
        walk_at "w"
        refine in_dct ?_
        walk_at "w"
        by_cases hc : vad (vsb y (A.headD [])) o ∈ T
        · rw [decide_eq_true hc] at hS ⊢
          walk_at "w"
          exact hS
        · rw [decide_eq_false hc] at hS ⊢
          walk_at "w"
          exact hS
      · walk_at "w"
        refine ⟨⟨shRowsL _, rfl⟩, ?_⟩
        have e5 : PyData.eqv (.list ((A.filter fun o => !decide (vad (vsb y (A.headD [])) o ∈ T)).map iT)) (.list []) = A.all fun o => decide (vad (vsb y (A.headD [])) o ∈ T) := by
          rw [show PyData.list [] = .list (([] : List (List Int)).map iT) from rfl, eqvRL]
          exact fil_not (p := fun o => decide (vad (vsb y (A.headD [])) o ∈ T))
        rw [e5]
        have lpre : pre.length ≤ k := by
          have := congrArg List.length e1
          rw [List.length_append] at this
          omega
        have lf : (((pre.map fun x => vsb x (A.headD [])).filter fun y => A.all fun o => decide (vad y o ∈ T)).map iT).length ≤ k := by
          rw [List.length_map]
          exact Nat.le_trans (List.length_filter_le _ _) (by rw [List.length_map]; exact lpre)
        have done : ∀ s' : List PyData, s' = ((((pre ++ [y]).map fun x => vsb x (A.headD [])).filter fun y => A.all fun o => decide (vad y o ∈ T)).map iT) → Q (.nx s') t2 := fun s' es => hQ _ _ ⟨rfl, pre ++ [y], post, by rw [← e1]; simp, rfl, es⟩
        refine cond_ap (fun hc => ?_) fun hc => ?_
        · walk_at "w"
          refine ⟨by omega, ?_⟩
          refine done _ ?_
          rw [List.map_append, List.filter_append, List.map_append]
          congr 1
          show _ = List.map iT (List.filter _ [vsb y (A.headD [])])
          rw [List.filter_cons_of_pos (by exact hc)]
          rfl
        · walk_at "w"
          refine done _ ?_
          rw [List.map_append, List.filter_append, List.map_append]
          show _ = _ ++ List.map iT (List.filter _ [vsb y (A.headD [])])
          rw [List.filter_cons_of_neg (by rw [hc]; decide)]
          simp
  · subst et e3
    have ep : post = [] := by
      cases post with
      | nil => rfl
      | cons y post => cases e2
    subst ep
    rw [List.append_nil] at e1
    subst e1
    walk_at "w"
    rw [srt_ap]
    walk_at "w"
    simp only [intRows_rT, need_ap, ret_ap]
    have len : ∀ r ∈ (pre.map fun x => vsb x (A.headD [])).filter fun y => A.all fun o => decide (vad y o ∈ pre), r.length = m := fun r hr => by
      obtain ⟨y, hy, rfl⟩ := List.mem_map.mp (List.mem_filter.mp hr).1
      exact vsb_len (gT.len y hy) hh
    refine ⟨⟨?_, ?_, len_ne (m := m) len hm⟩, ?_⟩
    · exact Nat.le_trans (List.length_filter_le _ _) (by rw [List.length_map]; omega)
    · refine List.Pairwise.filter _ ?_
      refine List.pairwise_map.mpr (List.Pairwise.imp_of_mem (fun {x y} hx hy ne e => ne ?_) (asc_nodup gT.asc))
      rw [← vad_vsb (a := x) (b := A.headD []) (by rw [gT.len x hx, hh]), e, vad_vsb (by rw [gT.len y hy, hh])]
    · walk_at "w"
      exact q
def wvD (A T : List (List Int)) : PyData := if restS A T = [] then .none else rT (restS (restS A T) T)
theorem p_value (hm : Mm m) (hA : Len m A) (gT : Gd m k T) (h0 : A ≠ []) (few : k < 64) (few2 : A.length < 64) (q : P (.d (wvD A T)) t) : m_l_value [.d (rT A), .d (rT T)] t P := by
  have g := restS_gd hA gT h0
  have gf := g.few
  unfold m_l_value
  walk_at "w"
  refine p_left hm hA gT h0 few few2 ?_
  walk_at "w"
  refine ⟨⟨shRowsT _, rfl⟩, ?_⟩
  rw [show PyData.eqv (rT (restS A T)) (.tuple []) = decide (restS A T = []) from eqvR _ []]
  unfold wvD at q
  by_cases h : restS A T = []
  · rw [decide_eq_true h]
    walk_at "w"
    rw [if_pos h] at q
    exact q
  · rw [decide_eq_false h]
    walk_at "w"
    refine p_left hm g.len gT h few (by omega) ?_
    walk_at "w"
    rw [if_neg h] at q
    exact q
end
end K36
end
section
set_option maxRecDepth 100000
set_option maxHeartbeats 4000000
namespace K36
open PySem PySem.Spec PyProof.Rows L2 Dl Dw Dz Dy Dx
open Dw (ret)
local macro_rules | `(tactic| walk_at "w") => `(tactic| try simp only [bnd_ap, ret_ap, need_ap, op1_ap, op2_ap, dA_ap, rdA_ap, callN_ap, asD_d, asD_own, asO_own, asB_b, asT_ap, froz_ap, disp_ap, ifW_ap, andT_ap, orT_ap, notT_ap, andW_b, orW_b, thn_ap, joi_ap, upO_ap, fnW_ap, fnU_ap, compW_ap, compO_ap, optW_ap, itL_ap, itT_ap, rng1_ap, rng2_ap, slT_ap, slL_ap, oN_ap, oS_ap, consA_ap, catL_ap, two_ap, three_ap, twoL_ap, threeL_ap, oadd_i, osub_i, omul_i, oneg_i, olt_i, ole_i, ogt_i, onot_b, oisi_ap, otup_l, otup_t, oint_i, olen_t, olen_l, arg0_ap, arg1_ap, arg2_ap, arg3_ap, arg4_ap, arg5_ap, argR0_ap, argR1_ap, argR2_ap, argR3_ap, argR4_ap, dsOf, Option.map_some, Option.map_none, List.length_cons, List.length_nil, Nat.reduceAdd, Nat.reduceLeDiff, true_and, and_true, cond_t, cond_f, Bool.not_true, Bool.not_false, truD, oeq_ap, one_ap, eqvStr, eqvInt, eqvBool, shInt, shBool, and_self, isI_i, isB_i, isT_t, strOk, zipW_ap, asL_t, asL_l, oisN_t, oisN_n, onotN_n, asB_b, decide_true, decide_false, beq_self_eq_true, Bool.or_false, Bool.false_or, Bool.and_true, Bool.true_and, noD, comp2_ap, methW_ap, opW_ap, neW_ap, propW_ap, lenW_ap, isiW_ap, mkW_ap, fnI_ap, argI1_ap, raiW_ap, enumW_ap, isC_t, okr_t, okw_t, okc_t, fld_t, ocatT_t, mulL_ap, objS, said_ap, oisN_S, onotN_S, omod_i, ointB_b, ointB_i])
theorem cut_map (L : List (List Int)) (lo hi : Option Int) : Dl.cutD (L.map iT) lo hi = (Dl.cutD L lo hi).map iT := by
  unfold Dl.cutD
  rw [List.length_map, List.map_take, List.map_drop]
theorem cut_mem {L : List (List Int)} {lo hi : Option Int} {r : List Int} (h : r ∈ Dl.cutD L lo hi) : r ∈ L := List.mem_of_mem_drop (List.mem_of_mem_take h)
theorem cut_len (L : List (List Int)) (lo hi : Option Int) : (Dl.cutD L lo hi).length ≤ L.length := by
  unfold Dl.cutD
  rw [List.length_take, List.length_drop]
  omega
section
variable {t : Rs} {C : Addr} {er : Str → Addr} {A D : List (List Int)} {m n k : Nat}
theorem rep01 {b : Bool} {Q : PyData → Rs → Prop} (h0 : A ≠ []) (few : A.length ≤ 1000) (q : Q (rT (if b = true then A else [])) t) : orepZ (rT A) (.int (if b = true then 1 else 0)) t Q := by
  refine ⟨⟨fun z => h0 (List.map_eq_nil_iff.mp z), ?_, ?_, by rw [List.length_map]; exact few⟩, ?_⟩
  · cases b <;> decide
  · cases b <;> decide
  · cases b with
    | true =>
      rw [if_pos rfl] at q
      have e : (List.replicate (if true = true then (1 : Int) else 0).toNat (A.map iT)).flatten = A.map iT := by simp
      rw [e]
      exact q
    | false => exact q
theorem p_goal {P : Sum PyData B → Rs → Prop} (hm : Mm m) (gA : Gd m 4 A) {xs : List PyData} (few : xs.length ≤ 3) (h : FrV (n + 19 * xs.length) t) (q : ∀ (L : List (List Int)) (t' : Rs), Len m L → L.length ≤ 12 → FrV n t' → P (.inl (rT L)) t') :
    forW (σ := PyData) (fun s7 turn9 =>
  bnd (op2 oix (bnd (callN 3 m_l_lot (rdA (dA (ret (.int (m : Nat))) (dA (ret (.int 1)) (ret []))))) asD) (ret (.int 0))) fun by10 =>
  bnd (op2 ocatT (ret s7) (op1 otup (froz (compW (itT (ret (rT A))) fun spot12 => bnd (callN 2 m_l_plus (dA (ret spot12) (dA (ret by10) (ret [])))) asD)))) fun goal11 =>
  ret (.nx goal11)) xs (.tuple []) t P := by
  have hhi := hm.hi
  have fA := gA.few
  refine for_cps (fun r s t2 => FrV (n + 19 * r.length) t2 ∧ ∃ L : List (List Int), s = rT L ∧ Len m L ∧ L.length + 4 * r.length ≤ 12) (fun x r s t2 ⟨h2, L, es, hL, hl⟩ Q hQ => ?_) (fun s t2 ⟨h2, L, es, hL, hl⟩ => ?_) _ _ _ ⟨h, [], rfl, fun r hr => (by cases hr), by simp; omega⟩
  · subst es
    rw [List.length_cons] at h2 hl
    walk_at "w"
    refine p_lot (n := n + 19 * r.length) (k := 1) hm (by omega) (h2.mono (by omega)) fun D t3 gD nD h3 => ?_
    walk_at "w"
    refine at0' nD ?_
    have hv := head_len gD.len nD
    walk_at "w"
    refine ⟨by rw [List.length_map]; omega, ?_⟩
    refine map_on (h := fun a => iT (vad a (D.headD []))) (fun a ha R hR => ?_) ?_
    · walk_at "w"
      refine p_plus (gA.len a ha) hv (by omega) ?_
      walk_at "w"
      exact hR
    · walk_at "w"
      have e1 : (A.map fun a => iT (vad a (D.headD []))) = (A.map fun a => vad a (D.headD [])).map iT := by rw [List.map_map]; rfl
      rw [e1]
      refine ⟨by rw [List.length_map, List.length_map, List.length_map]; omega, ?_⟩
      rw [← List.map_append]
      refine hQ _ t3 ⟨h3, L ++ A.map fun a => vad a (D.headD []), rfl, fun z hz => ?_, by rw [List.length_append, List.length_map]; omega⟩
      rcases List.mem_append.mp hz with hz | hz
      · exact hL z hz
      · obtain ⟨a, ha, rfl⟩ := List.mem_map.mp hz
        exact vad_len (gA.len a ha) hv
  · subst es
    exact q L t2 hL (by simpa using hl) (h2.mono (by simp))
theorem law_true {P : Out Empty Empty → Rs → Prop} (h : FrV 1010 t) (q : ∀ t', P (.rt (.d (.bool true))) t') : m_law C er (told er) okR t P := by
  unfold m_law
  walk_at "w"
  refine ⟨⟨by omega, by omega⟩, ?_⟩
  refine for_cps (fun r s t2 => FrV (97 * r.length + 10) t2 ∧ ∀ y ∈ r, ∃ i : Int, y = .int i) (fun x r s t2 ⟨h2, hr⟩ Q hQ => ?_) (fun s t2 _ => ?_) _ _ _ ⟨h.mono (by rw [rngD_len]; decide), rngD_int _ _⟩
  rotate_left
  · rw [List.length_cons] at h2
    obtain ⟨i, rfl⟩ := hr x (List.mem_cons_self ..)
    walk_at "w"
    have hf := Dl.fmod_pos (i := i) (j := 2) (by decide)
    refine ⟨by decide, ?_⟩
    obtain ⟨m, em, hm, hm2⟩ : ∃ m : Nat, 1 + i.fmod 2 = (m : Int) ∧ Mm m ∧ m ≤ 2 := ⟨(1 + i.fmod 2).toNat, by omega, ⟨by omega, by omega⟩, by omega⟩
    rw [em]
    refine p_lot (n := 97 * r.length + 88) (k := 4) hm (by omega) (h2.mono (by omega)) fun A t3 gA nA h3 => ?_
    have fA := gA.few
    walk_at "w"
    refine p_draw (n := 97 * r.length + 87) (h3.mono (by omega)) (by omega) (by omega) fun j t4 j0 j4 h4 => ?_
    walk_at "w"
    refine ⟨⟨by omega, by omega⟩, ?_⟩
    refine p_goal (n := 97 * r.length + 30) hm gA (by rw [rngD_len]; omega) (h4.mono (by rw [rngD_len]; omega)) fun L t5 hL fL h5 => ?_
    walk_at "w"
    rw [sdQ_ap]
    walk_at "w"
    refine p_lot (n := 97 * r.length + 11) (k := 3) hm (by omega) (h5.mono (by omega)) fun D t6 gD nD h6 => ?_
    have fD := gD.few
    walk_at "w"
    refine p_draw (n := 97 * r.length + 10) (h6.mono (by omega)) (by omega) (by omega) fun j2 t7 _ _ h7 => ?_
    walk_at "w"
    refine rep01 nD (by omega) ?_
    generalize eR : (if decide (j2 > 0) = true then D else []) = D2
    have lD2 : Len m D2 ∧ D2.length ≤ 3 := by
      rw [← eR]
      split
      · exact ⟨gD.len, by omega⟩
      · exact ⟨fun r hr => (by cases hr), by simp⟩
    walk_at "w"
    refine ⟨by rw [List.length_map, List.length_map]; omega, ?_⟩
    rw [← List.map_append, cut_map]
    have lR : Len m (Dl.cutD (L ++ D2) none (some 12)) := fun z hz => (List.mem_append.mp (cut_mem hz)).elim (hL z) (lD2.1 z)
    have nR : (Dl.cutD (L ++ D2) none (some 12)).length ≤ 15 := by
      have := cut_len (L ++ D2) none (some 12)
      rw [List.length_append] at this
      have := lD2.2
      omega
    generalize Dl.cutD (L ++ D2) none (some 12) = R at lR nR
    walk_at "w"
    simp only [seqD, Option.bind_some, intRows_rT, need_ap, ret_ap]
    refine ⟨⟨by omega, len_ne lR hm⟩, ?_⟩
    walk_at "w"
    have gG : Gd m 15 (sdd R) := sdd_gd lR nR
    generalize sdd R = G at gG
    have fG := gG.few
    refine p_init hm gA.len (by omega) ?_
    rw [sdd_id gA.asc]
    walk_at "w"
    refine p_init hm gG.len (by omega) ?_
    rw [sdd_id gG.asc]
    walk_at "w"
    refine p_left hm gA.len gG nA (by omega) (by omega) ?_
    walk_at "w"
    refine p_value hm gA.len gG nA (by omega) (by omega) ?_
    walk_at "w"
    refine p_worth hm gA gG nA (by omega) (by omega) ?_
    walk_at "w"
    refine p_rest hm gA gG nA (by omega) (by omega) ?_
    walk_at "w"
    refine p_form ?_
    walk_at "w"
    refine ⟨shRowsT _, ?_⟩
    rw [eqvR, decide_eq_true rfl]
    walk_at "w"
    have fin : ∀ (S : B → Rs → Prop), True := fun _ => trivial
    by_cases e : restS A G = []
    · rw [wo_nil e, show wvD A G = .none from if_pos e]
      walk_at "w"
      refine ⟨rfl, ?_⟩
      rw [show PyData.eqv .none .none = true from by simp [PyData.eqv]]
      walk_at "w"
      refine p_refused hm hm2 gA (by omega) nA ?_
      walk_at "w"
      refine p_rest hm gA gG nA (by omega) (by omega) ?_
      walk_at "w"
      refine p_form ?_
      walk_at "w"
      refine ⟨shRowsT _, ?_⟩
      rw [eqvR, decide_eq_true rfl]
      walk_at "w"
      refine p_form ?_
      walk_at "w"
      refine ⟨shRowsT _, ?_⟩
      rw [eqvR, decide_eq_true rfl]
      walk_at "w"
      exact hQ _ t7 ⟨h7, fun y hy => hr y (List.mem_cons_of_mem _ hy)⟩
    · rw [wo_so e, show wvD A G = rT (restS (restS A G) G) from if_neg e]
      walk_at "w"
      refine p_form ?_
      walk_at "w"
      refine ⟨shRowsT _, ?_⟩
      rw [eqvR, decide_eq_true rfl]
      walk_at "w"
      refine p_refused hm hm2 gA (by omega) nA ?_
      walk_at "w"
      refine p_rest hm gA gG nA (by omega) (by omega) ?_
      walk_at "w"
      refine p_form ?_
      walk_at "w"
      refine ⟨shRowsT _, ?_⟩
      rw [eqvR, decide_eq_true rfl]
      walk_at "w"
      refine p_form ?_
      walk_at "w"
      refine ⟨shRowsT _, ?_⟩
      rw [eqvR, decide_eq_true rfl]
      walk_at "w"
      exact hQ _ t7 ⟨h7, fun y hy => hr y (List.mem_cons_of_mem _ hy)⟩
  · walk_at "w"
    exact q _
end
end K36
end
section
set_option maxRecDepth 100000
set_option maxHeartbeats 4000000
namespace K36
open PySem PySem.Spec PyProof.Rows L2 Dl Dw Dz Dy Dx
abbrev NLaw : List Str := ["_law_script", "_law_source_here", "_law_lap", "_law_many", "_law_lot_here", "_law_goal", "_law_turn", "_law_by", "_law_a", "_law_b", "_law_rest", "_law_due", "_law_told", "_law_spot"]
section
variable {P : Program} {w : World} {K : PySem.W.Frag} {mg : Str → Option Value} {base : Heap}
theorem ok_reader {f : Addr} {fd : FuncData} {k : Nat} (F : Fun K "_law_source" "_law_source" s__law_source f fd) : FnOk P w K mg base CX0 (k + 1) f fd ["_law_script"] (spReader K) :=
  F.ok sc__law_source (fun vs H Q E h => by
    obtain ⟨a, ns, rfl, _⟩ := h
    rfl) fun cdv A outer s H vs Q E hr h => by
    obtain ⟨a, ns, rfl, sq, q⟩ := h
    refine ⟨_, pss_one (ps_ret (pe_lst (pa_cons (pe_slice sl_list (pe_var (i := 0) rfl (Or.inl rfl)) po_none (po_some pe_int)) (pa_cons pe_int (pa_cons pe_int (pa_cons pe_int pa_nil)))))), ?_⟩
    refine ⟨.ref a, rfl, 63, rfl, a, _, rfl, sq, fun p hp => ?_⟩
    rw [cut63]
    refine ⟨by rw [sizeLine_eq]; exact (by decide : 4 ≤ 16777216), fun p2 hp2 => ?_⟩
    have ne : p2 ≠ p := fun z => by
      rw [z, upd_same] at hp2
      cases hp2
    rw [upd_ne ne] at hp2
    exact q p p2 hp ne hp2

theorem ok_law_of {T : List (Addr × Str)} {f fr : Addr} {fd fdr : FuncData} {k : Nat} {ps1 : List Str} (F : Fun K "law" "law" s_law f fd) (Fr : FnOk P w K mg base CX0 k fr fdr ps1 (spReader K)) (hm : mg "_law_source" = some (.ref fr)) (kp : PySem.W.keepIn K (.ref fr) = true) (bd : Binds K fdr ps1 [])
    (body : ∀ (cdv : Value) (A : Around) (outer : List Env) (s : Shared) (H : Hp) (E : XK) (M : Md (kkOf P w K) (W4T T)) (t : Rs), fd.code = cdv → Room k (Xo P w K mg base NLaw "law" s_law f cdv A outer s H E).A → (Xo P w K mg base NLaw "law" s_law f cdv A outer s H E).A.guards = some [] → t.ns.length ≤ 63 → t.draws = 0 →
      JSs (X := Xo P w K mg base NLaw "law" s_law f cdv A outer s H E) M ((defBody s_law).drop 1) (.un :: .rd :: List.replicate (NLaw.length - 2) .un) t { nx := fun _ _ => False, rt := fun b _ => b = .d (.bool true) }) : FnG P w K mg base (k + 1) f fd ["_law_script"] (spLawT K T) := by
  refine fnGc_of F sc_law (fun ys G Qf Ef h => ?_) fun cdv A out s0 H ys Qf Ef hcd hg hr h => ?_
  · obtain ⟨a, ns, rfl, _⟩ := h
    rfl
  · obtain ⟨a, ns, rfl, sq, tb, q⟩ := h
    refine ⟨_, pss_cons (ps_set (i := 1) sc_law.nd rfl (by first | exact Or.inl rfl | exact Or.inr rfl) (pe_call Fr hr rfl hm kp bd .nil pass0 (pa_cons (pe_var (i := 0) rfl (Or.inl rfl)) pa_nil)) rfl (.inl rfl)) pssT, ?_⟩
    refine ⟨.ref a, rfl, a, ns, rfl, sq, fun p r hp ne hq => ?_⟩
    obtain ⟨M, t, G, h1, h2, h3, S⟩ := law_startT (K := kkOf P w K) (T := T) (N := NLaw) (by decide) (a := a) (ns := ns) tb hp ne hq
    refine body cdv A out s0 H Ef M t hcd hr hg h1 h2 _ G _ S _ ⟨fun _ _ _ _ _ _ _ z => z.elim, fun _ _ _ _ _ _ _ z => z.elim, fun _ _ _ _ _ _ _ z => z.elim, fun G2 H2 t2 v x _ d z => ?_, fun _ _ _ _ _ _ _ _ _ _ _ z => ?_⟩
    · cases z
      rw [d.blE]
      exact q H2
    · cases z
end
end K36
end
section
set_option maxRecDepth 100000
set_option maxHeartbeats 4000000
namespace K36
open PySem PySem.Spec PyProof.Rows L2 Dl Dw Dz Dy Dx
/-! ### what the top has written -/
theorem all_mk {P : Program} {w : World} {K : PySem.W.Frag} {h : Heap} {mg : Str → Option Value} {fa C : Addr} (X : K.In h) (G : h.Ns mainGlobals mg) (hfa : mg "law" = some (.ref fa))
    (aC : PySem.W.nsIn K mainGlobals "Sums" = some (some (.ref C))) (pg : PySem.W.plainGet K C Str.empty = true) (hd : PySem.W.hasDictIn K C = true) (po : PySem.W.plainOver K C = true) (sa : PySem.W.findIn K (.ref C) "__setattr__" = some (some (.builtin "object.__setattr__")))
    (ha : PySem.W.findIn K (.ref C) "__class__" = some (some (.builtin "object.__class__"))) (hn : PySem.W.specialIn K (.builtin "object.__class__") "__get__" = some (some (.builtin "getset_descriptor.__get__"))) (ht : PySem.W.takesIn K (.builtin "object.__class__") = some true) (hm : PySem.W.mroIn K C (.type "object") = some true)
    (sf : PySem.W.selfFirst K C = true) (ne : PySem.W.findIn K (.ref C) "__ne__" = some (some (.builtin "object.__ne__"))) (mk : PySem.W.makesIn K C = true) (kc : PySem.W.keepIn K (.ref C) = true)
    (nF__form : PySem.W.findIn K (.ref C) "_form" = some none)
    {eRightError ePaperError eStoreError eServiceError eTextError eInvalidPaper eInvalidSums eInvalidFamily eUnknownHand eUnfitRule eUnknownDeed : Addr}
    (nRightError : PySem.W.nsIn K mainGlobals "RightError" = some (some (.ref eRightError)))
    (nPaperError : PySem.W.nsIn K mainGlobals "PaperError" = some (some (.ref ePaperError)))
    (nStoreError : PySem.W.nsIn K mainGlobals "StoreError" = some (some (.ref eStoreError)))
    (nServiceError : PySem.W.nsIn K mainGlobals "ServiceError" = some (some (.ref eServiceError)))
    (nTextError : PySem.W.nsIn K mainGlobals "TextError" = some (some (.ref eTextError)))
    (nInvalidPaper : PySem.W.nsIn K mainGlobals "InvalidPaper" = some (some (.ref eInvalidPaper)))
    (nInvalidSums : PySem.W.nsIn K mainGlobals "InvalidSums" = some (some (.ref eInvalidSums)))
    (nInvalidFamily : PySem.W.nsIn K mainGlobals "InvalidFamily" = some (some (.ref eInvalidFamily)))
    (nUnknownHand : PySem.W.nsIn K mainGlobals "UnknownHand" = some (some (.ref eUnknownHand)))
    (nUnfitRule : PySem.W.nsIn K mainGlobals "UnfitRule" = some (some (.ref eUnfitRule)))
    (nUnknownDeed : PySem.W.nsIn K mainGlobals "UnknownDeed" = some (some (.ref eUnknownDeed)))
    (xhg : PySem.W.findIn K (.ref eInvalidSums) "__getattribute__" = some (some (.builtin "BaseException.__getattribute__")))
    (xhk : PySem.W.findIn K (.ref eInvalidSums) "__getattr__" = some none)
    (xhs : PySem.W.subIn K (.ref eInvalidSums) (.type "BaseException") = some true)
    (xhd : PySem.W.hasDictIn K eInvalidSums = true)
    (xha : PySem.W.findIn K (.ref eInvalidSums) "__class__" = some (some (.builtin "object.__class__")))
    (xhm : PySem.W.mroIn K eInvalidSums (.type "object") = some true)
    (xw : PySem.W.findIn K (.ref eInvalidSums) "word" = some none)
    (xa : PySem.W.findIn K (.ref eInvalidSums) "at" = some none)
    (xiP : PySem.W.kitOne K (.ref eInvalidSums) (.ref ePaperError) = some false)
    (xiS : PySem.W.kitOne K (.ref eInvalidSums) (.ref eStoreError) = some true)
    (xiV : PySem.W.kitOne K (.ref eInvalidSums) (.ref eServiceError) = some false)
    (xiT : PySem.W.kitOne K (.ref eInvalidSums) (.ref eTextError) = some false)
    (xi6 : PySem.W.kitOne K (.ref eInvalidSums) (.ref eInvalidPaper) = some false)
    (xi1 : PySem.W.kitOne K (.ref eInvalidSums) (.ref eInvalidSums) = some true)
    (xi2 : PySem.W.kitOne K (.ref eInvalidSums) (.ref eInvalidFamily) = some false)
    (xi3 : PySem.W.kitOne K (.ref eInvalidSums) (.ref eUnknownHand) = some false)
    (xi4 : PySem.W.kitOne K (.ref eInvalidSums) (.ref eUnfitRule) = some false)
    (xi5 : PySem.W.kitOne K (.ref eInvalidSums) (.ref eUnknownDeed) = some false)
    (xex : PySem.W.exmOne K (.ref eInvalidSums) (.ref eRightError) = some true)
    {nmI qI : Str} {NI : Addr} {bsI bmI subI : List Value} {snI : List Str} {abI : Bool} {colI : Option Bool} {ddI : Option Addr} {k0I k1I k2I k3I k5I : Option Value} (oc : K.lookup eInvalidSums = some (excClassObj nmI qI eInvalidSums NI bsI bmI true snI subI abI colI ddI k0I k1I k2I k3I k5I "ValueError.__new__")) (rv : PySem.HandSPX.refsVE bmI = true)
    (osa : PySem.W.findIn K (.ref eInvalidSums) "__setattr__" = some (some (.builtin "object.__setattr__"))) (oty : PySem.W.typeIn K (.ref eInvalidSums) = some (.type "type")) (okc : PySem.W.keepIn K (.ref eInvalidSums) = true)
    {fE : Addr} {odE anE : Option Addr} {slE : Array (Option Value)} {ocE kVE dcE pmE cdE ctE : Value} (aE : PySem.W.findIn K (.ref eInvalidSums) "__init__" = some (some (.ref fE))) (tE : PySem.W.typeIn K (.ref fE) = some (.type "function")) (lE : K.lookup fE = some ⟨ocE, odE, .func (PySem.W.fnOf "__init__" "InvalidSums.__init__" (defArgs s_E_InvalidSums) (defBody s_E_InvalidSums) (defScope s_E_InvalidSums) .none kVE dcE pmE anE cdE ctE), slE⟩) (cE : PySem.W.codeIn K cdE "InvalidSums.__init__" = true) (kE : PySem.W.keepIn K (.ref fE) = true)
    {cc20 PT20 : Addr}
    {f2 : Addr} {od2 an2 : Option Addr} {sl2 : Array (Option Value)} {oc2 kV2 dc2 pm2 cd2 ct2 : Value} (a2 : PySem.W.nsIn K mainGlobals "added" = some (some (.ref f2))) (l2 : K.lookup f2 = some ⟨oc2, od2, .func (PySem.W.fnOf "added" "added" (defArgs s_added) (defBody s_added) (defScope s_added) .none kV2 dc2 pm2 an2 cd2 ct2), sl2⟩) (c2 : PySem.W.codeIn K cd2 "added" = true) (k2 : PySem.W.keepIn K (.ref f2) = true)
    {f3 : Addr} {od3 an3 : Option Addr} {sl3 : Array (Option Value)} {oc3 kV3 dc3 pm3 cd3 ct3 : Value} (a3 : PySem.W.nsIn K mainGlobals "subtracted" = some (some (.ref f3))) (l3 : K.lookup f3 = some ⟨oc3, od3, .func (PySem.W.fnOf "subtracted" "subtracted" (defArgs s_subtracted) (defBody s_subtracted) (defScope s_subtracted) .none kV3 dc3 pm3 an3 cd3 ct3), sl3⟩) (c3 : PySem.W.codeIn K cd3 "subtracted" = true) (k3 : PySem.W.keepIn K (.ref f3) = true)
    {f4 : Addr} {od4 an4 : Option Addr} {sl4 : Array (Option Value)} {oc4 kV4 dc4 pm4 cd4 ct4 : Value} (a4 : PySem.W.nsIn K mainGlobals "is_integer" = some (some (.ref f4))) (l4 : K.lookup f4 = some ⟨oc4, od4, .func (PySem.W.fnOf "is_integer" "is_integer" (defArgs s_is_integer) (defBody s_is_integer) (defScope s_is_integer) .none kV4 dc4 pm4 an4 cd4 ct4), sl4⟩) (c4 : PySem.W.codeIn K cd4 "is_integer" = true) (k4 : PySem.W.keepIn K (.ref f4) = true)
    {f5 : Addr} {od5 an5 : Option Addr} {sl5 : Array (Option Value)} {oc5 kV5 dc5 pm5 cd5 ct5 : Value} (a5 : PySem.W.nsIn K mainGlobals "is_integers" = some (some (.ref f5))) (l5 : K.lookup f5 = some ⟨oc5, od5, .func (PySem.W.fnOf "is_integers" "is_integers" (defArgs s_is_integers) (defBody s_is_integers) (defScope s_is_integers) .none kV5 dc5 pm5 an5 cd5 ct5), sl5⟩) (c5 : PySem.W.codeIn K cd5 "is_integers" = true) (k5 : PySem.W.keepIn K (.ref f5) = true)
    {f6 : Addr} {od6 an6 : Option Addr} {sl6 : Array (Option Value)} {oc6 kV6 dc6 pm6 cd6 ct6 : Value} (a6 : PySem.W.nsIn K mainGlobals "as_set" = some (some (.ref f6))) (l6 : K.lookup f6 = some ⟨oc6, od6, .func (PySem.W.fnOf "as_set" "as_set" (defArgs s_as_set) (defBody s_as_set) (defScope s_as_set) .none kV6 dc6 pm6 an6 cd6 ct6), sl6⟩) (c6 : PySem.W.codeIn K cd6 "as_set" = true) (k6 : PySem.W.keepIn K (.ref f6) = true)
    {f7 : Addr} {od7 an7 : Option Addr} {sl7 : Array (Option Value)} {oc7 kV7 dc7 pm7 cd7 ct7 : Value} (a7 : PySem.W.nsIn K mainGlobals "all_added" = some (some (.ref f7))) (l7 : K.lookup f7 = some ⟨oc7, od7, .func (PySem.W.fnOf "all_added" "all_added" (defArgs s_all_added) (defBody s_all_added) (defScope s_all_added) .none kV7 dc7 pm7 an7 cd7 ct7), sl7⟩) (c7 : PySem.W.codeIn K cd7 "all_added" = true) (k7 : PySem.W.keepIn K (.ref f7) = true)
    {f8 : Addr} {od8 an8 : Option Addr} {sl8 : Array (Option Value)} {oc8 kV8 dc8 pm8 cd8 ct8 : Value} (a8 : PySem.W.nsIn K mainGlobals "rest_of_sums" = some (some (.ref f8))) (l8 : K.lookup f8 = some ⟨oc8, od8, .func (PySem.W.fnOf "rest_of_sums" "rest_of_sums" (defArgs s_rest_of_sums) (defBody s_rest_of_sums) (defScope s_rest_of_sums) .none kV8 dc8 pm8 an8 cd8 ct8), sl8⟩) (c8 : PySem.W.codeIn K cd8 "rest_of_sums" = true) (k8 : PySem.W.keepIn K (.ref f8) = true)
    {f9 : Addr} {od9 an9 : Option Addr} {sl9 : Array (Option Value)} {oc9 kV9 dc9 pm9 cd9 ct9 : Value} (a9 : PySem.W.nsIn K mainGlobals "_is_long_sum" = some (some (.ref f9))) (l9 : K.lookup f9 = some ⟨oc9, od9, .func (PySem.W.fnOf "_is_long_sum" "_is_long_sum" (defArgs s__is_long_sum) (defBody s__is_long_sum) (defScope s__is_long_sum) .none kV9 dc9 pm9 an9 cd9 ct9), sl9⟩) (c9 : PySem.W.codeIn K cd9 "_is_long_sum" = true) (k9 : PySem.W.keepIn K (.ref f9) = true)
    {f10 : Addr} {od10 an10 : Option Addr} {sl10 : Array (Option Value)} {oc10 kV10 dc10 pm10 cd10 ct10 : Value} (a10 : PySem.W.nsIn K mainGlobals "_are_long_sums" = some (some (.ref f10))) (l10 : K.lookup f10 = some ⟨oc10, od10, .func (PySem.W.fnOf "_are_long_sums" "_are_long_sums" (defArgs s__are_long_sums) (defBody s__are_long_sums) (defScope s__are_long_sums) .none kV10 dc10 pm10 an10 cd10 ct10), sl10⟩) (c10 : PySem.W.codeIn K cd10 "_are_long_sums" = true) (k10 : PySem.W.keepIn K (.ref f10) = true)
    {f11 : Addr} {od11 an11 : Option Addr} {sl11 : Array (Option Value)} {oc11 kV11 dc11 pm11 cd11 ct11 : Value} (a11 : PySem.W.nsIn K mainGlobals "_law_source" = some (some (.ref f11))) (l11 : K.lookup f11 = some ⟨oc11, od11, .func (PySem.W.fnOf "_law_source" "_law_source" (defArgs s__law_source) (defBody s__law_source) (defScope s__law_source) .none kV11 dc11 pm11 an11 cd11 ct11), sl11⟩) (c11 : PySem.W.codeIn K cd11 "_law_source" = true) (k11 : PySem.W.keepIn K (.ref f11) = true)
    {f12 : Addr} {od12 an12 : Option Addr} {sl12 : Array (Option Value)} {oc12 kV12 dc12 pm12 cd12 ct12 : Value} (a12 : PySem.W.nsIn K mainGlobals "_law_draw" = some (some (.ref f12))) (l12 : K.lookup f12 = some ⟨oc12, od12, .func (PySem.W.fnOf "_law_draw" "_law_draw" (defArgs s__law_draw) (defBody s__law_draw) (defScope s__law_draw) .none kV12 dc12 pm12 an12 cd12 ct12), sl12⟩) (c12 : PySem.W.codeIn K cd12 "_law_draw" = true) (k12 : PySem.W.keepIn K (.ref f12) = true)
    {f13 : Addr} {od13 an13 : Option Addr} {sl13 : Array (Option Value)} {oc13 kV13 dc13 pm13 cd13 ct13 : Value} (a13 : PySem.W.nsIn K mainGlobals "_law_plus" = some (some (.ref f13))) (l13 : K.lookup f13 = some ⟨oc13, od13, .func (PySem.W.fnOf "_law_plus" "_law_plus" (defArgs s__law_plus) (defBody s__law_plus) (defScope s__law_plus) .none kV13 dc13 pm13 an13 cd13 ct13), sl13⟩) (c13 : PySem.W.codeIn K cd13 "_law_plus" = true) (k13 : PySem.W.keepIn K (.ref f13) = true)
    {f14 : Addr} {od14 an14 : Option Addr} {sl14 : Array (Option Value)} {oc14 kV14 dc14 pm14 cd14 ct14 : Value} (a14 : PySem.W.nsIn K mainGlobals "_law_minus" = some (some (.ref f14))) (l14 : K.lookup f14 = some ⟨oc14, od14, .func (PySem.W.fnOf "_law_minus" "_law_minus" (defArgs s__law_minus) (defBody s__law_minus) (defScope s__law_minus) .none kV14 dc14 pm14 an14 cd14 ct14), sl14⟩) (c14 : PySem.W.codeIn K cd14 "_law_minus" = true) (k14 : PySem.W.keepIn K (.ref f14) = true)
    {f15 : Addr} {od15 an15 : Option Addr} {sl15 : Array (Option Value)} {oc15 kV15 dc15 pm15 cd15 ct15 : Value} (a15 : PySem.W.nsIn K mainGlobals "_law_left" = some (some (.ref f15))) (l15 : K.lookup f15 = some ⟨oc15, od15, .func (PySem.W.fnOf "_law_left" "_law_left" (defArgs s__law_left) (defBody s__law_left) (defScope s__law_left) .none kV15 dc15 pm15 an15 cd15 ct15), sl15⟩) (c15 : PySem.W.codeIn K cd15 "_law_left" = true) (k15 : PySem.W.keepIn K (.ref f15) = true)
    {f16 : Addr} {od16 an16 : Option Addr} {sl16 : Array (Option Value)} {oc16 kV16 dc16 pm16 cd16 ct16 : Value} (a16 : PySem.W.nsIn K mainGlobals "_law_value" = some (some (.ref f16))) (l16 : K.lookup f16 = some ⟨oc16, od16, .func (PySem.W.fnOf "_law_value" "_law_value" (defArgs s__law_value) (defBody s__law_value) (defScope s__law_value) .none kV16 dc16 pm16 an16 cd16 ct16), sl16⟩) (c16 : PySem.W.codeIn K cd16 "_law_value" = true) (k16 : PySem.W.keepIn K (.ref f16) = true)
    {f17 : Addr} {od17 an17 : Option Addr} {sl17 : Array (Option Value)} {oc17 kV17 dc17 pm17 cd17 ct17 : Value} (a17 : PySem.W.nsIn K mainGlobals "_law_lot" = some (some (.ref f17))) (l17 : K.lookup f17 = some ⟨oc17, od17, .func (PySem.W.fnOf "_law_lot" "_law_lot" (defArgs s__law_lot) (defBody s__law_lot) (defScope s__law_lot) .none kV17 dc17 pm17 an17 cd17 ct17), sl17⟩) (c17 : PySem.W.codeIn K cd17 "_law_lot" = true) (k17 : PySem.W.keepIn K (.ref f17) = true)
    {f18 : Addr} {od18 an18 : Option Addr} {sl18 : Array (Option Value)} {oc18 kV18 dc18 pm18 cd18 ct18 : Value} (a18 : PySem.W.nsIn K mainGlobals "_law_said" = some (some (.ref f18))) (l18 : K.lookup f18 = some ⟨oc18, od18, .func (PySem.W.fnOf "_law_said" "_law_said" (defArgs s__law_said) (defBody s__law_said) (defScope s__law_said) .none kV18 dc18 pm18 an18 cd18 ct18), sl18⟩) (c18 : PySem.W.codeIn K cd18 "_law_said" = true) (k18 : PySem.W.keepIn K (.ref f18) = true)
    {f19 : Addr} {od19 an19 : Option Addr} {sl19 : Array (Option Value)} {oc19 kV19 dc19 pm19 cd19 ct19 : Value} (a19 : PySem.W.nsIn K mainGlobals "_law_store_error" = some (some (.ref f19))) (l19 : K.lookup f19 = some ⟨oc19, od19, .func (PySem.W.fnOf "_law_store_error" "_law_store_error" (defArgs s__law_store_error) (defBody s__law_store_error) (defScope s__law_store_error) .none kV19 dc19 pm19 an19 cd19 ct19), sl19⟩) (c19 : PySem.W.codeIn K cd19 "_law_store_error" = true) (k19 : PySem.W.keepIn K (.ref f19) = true)
    {f20 : Addr} {od20 an20 : Option Addr} {sl20 : Array (Option Value)} {oc20 kV20 dc20 pm20 ct20 : Value} (a20 : PySem.W.nsIn K mainGlobals "_law_are_refused" = some (some (.ref f20))) (l20 : K.lookup f20 = some ⟨oc20, od20, .func (PySem.W.fnOf "_law_are_refused" "_law_are_refused" (defArgs s__law_are_refused) (defBody s__law_are_refused) (defScope s__law_are_refused) .none kV20 dc20 pm20 an20 (.ref cc20) ct20), sl20⟩) (c20 : PySem.W.codeIn K (.ref cc20) "_law_are_refused" = true) (k20 : PySem.W.keepIn K (.ref f20) = true)
    {f21 : Addr} {od21 an21 : Option Addr} {sl21 : Array (Option Value)} {oc21 kV21 dc21 pm21 cd21 ct21 : Value} (a21 : PySem.W.findIn K (.ref C) "__init__" = some (some (.ref f21))) (i21 : PySem.W.isFn K (.ref f21) = true) (l21 : K.lookup f21 = some ⟨oc21, od21, .func (PySem.W.fnOf "__init__" "Sums.__init__" (defArgs s_S___init__) (defBody s_S___init__) (defScope s_S___init__) .none kV21 dc21 pm21 an21 cd21 ct21), sl21⟩) (c21 : PySem.W.codeIn K cd21 "Sums.__init__" = true) (k21 : PySem.W.keepIn K (.ref f21) = true)
    {f22 : Addr} {od22 an22 : Option Addr} {sl22 : Array (Option Value)} {oc22 kV22 dc22 pm22 cd22 ct22 : Value} {p22 : Addr} {re22 : List Value} (a22 : PySem.W.findIn K (.ref C) "form" = some (some (.ref p22))) (g22 : PySem.W.specialIn K (.ref p22) "__get__" = some (some (.builtin "property.__get__"))) (t22 : PySem.W.takesIn K (.ref p22) = some true) (r22 : PySem.W.recIn K p22 "property" = some (.ref f22 :: re22)) (l22 : K.lookup f22 = some ⟨oc22, od22, .func (PySem.W.fnOf "form" "Sums.form" (defArgs s_S_form) (defBody s_S_form) (defScope s_S_form) .none kV22 dc22 pm22 an22 cd22 ct22), sl22⟩) (c22 : PySem.W.codeIn K cd22 "Sums.form" = true) (k22 : PySem.W.keepIn K (.ref f22) = true)
    {f23 : Addr} {od23 an23 : Option Addr} {sl23 : Array (Option Value)} {oc23 kV23 dc23 pm23 cd23 ct23 : Value} (a23 : PySem.W.findIn K (.ref C) "__len__" = some (some (.ref f23))) (i23 : PySem.W.isFn K (.ref f23) = true) (l23 : K.lookup f23 = some ⟨oc23, od23, .func (PySem.W.fnOf "__len__" "Sums.__len__" (defArgs s_S___len__) (defBody s_S___len__) (defScope s_S___len__) .none kV23 dc23 pm23 an23 cd23 ct23), sl23⟩) (c23 : PySem.W.codeIn K cd23 "Sums.__len__" = true) (k23 : PySem.W.keepIn K (.ref f23) = true)
    {f24 : Addr} {od24 an24 : Option Addr} {sl24 : Array (Option Value)} {oc24 kV24 dc24 pm24 cd24 ct24 : Value} (a24 : PySem.W.findIn K (.ref C) "rest_in" = some (some (.ref f24))) (i24 : PySem.W.isFn K (.ref f24) = true) (l24 : K.lookup f24 = some ⟨oc24, od24, .func (PySem.W.fnOf "rest_in" "Sums.rest_in" (defArgs s_S_rest_in) (defBody s_S_rest_in) (defScope s_S_rest_in) .none kV24 dc24 pm24 an24 cd24 ct24), sl24⟩) (c24 : PySem.W.codeIn K cd24 "Sums.rest_in" = true) (k24 : PySem.W.keepIn K (.ref f24) = true)
    {f25 : Addr} {od25 an25 : Option Addr} {sl25 : Array (Option Value)} {oc25 kV25 dc25 pm25 cd25 ct25 : Value} (a25 : PySem.W.findIn K (.ref C) "worth_in" = some (some (.ref f25))) (i25 : PySem.W.isFn K (.ref f25) = true) (l25 : K.lookup f25 = some ⟨oc25, od25, .func (PySem.W.fnOf "worth_in" "Sums.worth_in" (defArgs s_S_worth_in) (defBody s_S_worth_in) (defScope s_S_worth_in) .none kV25 dc25 pm25 an25 cd25 ct25), sl25⟩) (c25 : PySem.W.codeIn K cd25 "Sums.worth_in" = true) (k25 : PySem.W.keepIn K (.ref f25) = true)
    {f26 : Addr} {od26 an26 : Option Addr} {sl26 : Array (Option Value)} {oc26 kV26 dc26 pm26 cd26 ct26 : Value} (a26 : PySem.W.findIn K (.ref C) "_check_length" = some (some (.ref f26))) (i26 : PySem.W.isFn K (.ref f26) = true) (l26 : K.lookup f26 = some ⟨oc26, od26, .func (PySem.W.fnOf "_check_length" "Sums._check_length" (defArgs s_S__check_length) (defBody s_S__check_length) (defScope s_S__check_length) .none kV26 dc26 pm26 an26 cd26 ct26), sl26⟩) (c26 : PySem.W.codeIn K cd26 "Sums._check_length" = true) (k26 : PySem.W.keepIn K (.ref f26) = true)
    {f27 : Addr} {od27 an27 : Option Addr} {sl27 : Array (Option Value)} {oc27 kV27 dc27 pm27 cd27 ct27 : Value} (a27 : PySem.W.nsIn K mainGlobals "law" = some (some (.ref f27))) (l27 : K.lookup f27 = some ⟨oc27, od27, .func (PySem.W.fnOf "law" "law" (defArgs s_law) (defBody s_law) (defScope s_law) .none kV27 dc27 pm27 an27 cd27 ct27), sl27⟩) (c27 : PySem.W.codeIn K cd27 "law" = true) (k27 : PySem.W.keepIn K (.ref f27) = true)
    (z1 : PySem.W.nsIn K mainGlobals "isinstance" = some none)
    (z2 : PySem.W.nsIn K mainGlobals "int" = some none)
    (z3 : PySem.W.nsIn K mainGlobals "bool" = some none)
    (z4 : PySem.W.nsIn K mainGlobals "str" = some none)
    (z5 : PySem.W.nsIn K mainGlobals "tuple" = some none)
    (z6 : PySem.W.nsIn K mainGlobals "list" = some none)
    (z7 : PySem.W.nsIn K mainGlobals "len" = some none)
    (z8 : PySem.W.nsIn K mainGlobals "all" = some none)
    (z9 : PySem.W.nsIn K mainGlobals "any" = some none)
    (z10 : PySem.W.nsIn K mainGlobals "range" = some none)
    (z11 : PySem.W.nsIn K mainGlobals "sorted" = some none)
    (z12 : PySem.W.nsIn K mainGlobals "set" = some none)
    (z13 : PySem.W.nsIn K mainGlobals "repr" = some none)
    (z14 : PySem.W.nsIn K mainGlobals "sum" = some none)
    (z15 : PySem.W.nsIn K mainGlobals "zip" = some none)
    (z16 : PySem.W.nsIn K mainGlobals "enumerate" = some none)
    (z17 : PySem.W.nsIn K mainGlobals "dict" = some none)
    (z18 : PySem.W.nsIn K mainGlobals "min" = some none)
    (z19 : PySem.W.nsIn K mainGlobals "max" = some none) :
    ∃ fd : FuncData, (∀ (s : Shared) (v : Value), BindsTo s fd ⟨[v], []⟩ [("_law_script", v)]) ∧ ∀ low : Heap, K.In low → low.Ns mainGlobals mg → (∀ p ∈ ([(cc20, PT20)] : List (Addr × Addr)), LamX.TabB low mg p.1 p.2) → FnG P w K mg low 14 fa fd ["_law_script"] (spLawT K [(PT20, ((envOfC "_law_are_refused" (defScope s__law_are_refused) 0 0 .none).qual ++ "<lambda>"))]) := by
  have e := hfa.symm.trans (PySem.W.mg_of X G a27)
  cases e
  have ki : PySem.W.kitOne K (.ref C) (.ref C) = some true := if_pos (beq_self_eq_true _)
  have KL : Kls K C := ⟨⟨pg, hd, po, sa⟩, ha, hn, ht, hm, sf, ne, ki⟩
  have mC := PySem.W.mg_of X G aC
  let er : Str → Addr := fun s => if s = "RightError" then eRightError else if s = "PaperError" then ePaperError else if s = "StoreError" then eStoreError else if s = "ServiceError" then eServiceError else if s = "TextError" then eTextError else if s = "InvalidPaper" then eInvalidPaper else if s = "InvalidSums" then eInvalidSums else if s = "InvalidFamily" then eInvalidFamily else if s = "UnknownHand" then eUnknownHand else if s = "UnfitRule" then eUnfitRule else if s = "UnknownDeed" then eUnknownDeed else 0
  let T : List (Addr × Str) := [(PT20, ((envOfC "_law_are_refused" (defScope s__law_are_refused) 0 0 .none).qual ++ "<lambda>"))]
  have nm : Nam mg er := ⟨PySem.W.mg_of X G nRightError, PySem.W.mg_of X G nPaperError, PySem.W.mg_of X G nStoreError, PySem.W.mg_of X G nServiceError, PySem.W.mg_of X G nTextError, PySem.W.mg_of X G nInvalidPaper, PySem.W.mg_of X G nInvalidSums, PySem.W.mg_of X G nInvalidFamily, PySem.W.mg_of X G nUnknownHand, PySem.W.mg_of X G nUnfitRule, PySem.W.mg_of X G nUnknownDeed⟩
  have exc : ExcC K (er "InvalidSums") := ⟨xhg, xhk, xhs, xhd, xha, hn, ht, xhm⟩
  have c1s : Cls1 K er (er "InvalidSums") := ⟨exc, ⟨xhg, xhk, xhs, xhd⟩, xw, xa, xiP, xiS, xiV, xiT, xi6, xi1, xi2, xi3, xi4, xi5, xex⟩
  have ox : OexC K (er "InvalidSums") := ⟨⟨nmI, qI, NI, bsI, bmI, snI, subI, abI, colI, ddI, k0I, k1I, k2I, k3I, k5I, oc, rv⟩, osa, xhs, oty, okc⟩
  have FE := fun_mk (st := s_E_InvalidSums) lE cE kE
  have bE := FE.binds (ps := ["self", "word", "at"]) fun _ _ _ _ _ _ us hl => match us, hl with | [_, _, _], _ => rfl
  have F2 := fun_mk (st := s_added) l2 c2 k2
  have m2 := PySem.W.mg_of X G a2
  have F3 := fun_mk (st := s_subtracted) l3 c3 k3
  have b3 := F3.binds (ps := ["one", "other"]) fun _ _ _ _ _ _ us hl => match us, hl with | [_, _], _ => rfl
  have m3 := PySem.W.mg_of X G a3
  have F4 := fun_mk (st := s_is_integer) l4 c4 k4
  have b4 := F4.binds (ps := ["thing"]) fun _ _ _ _ _ _ us hl => match us, hl with | [_], _ => rfl
  have m4 := PySem.W.mg_of X G a4
  have F5 := fun_mk (st := s_is_integers) l5 c5 k5
  have b5 := F5.binds (ps := ["thing"]) fun _ _ _ _ _ _ us hl => match us, hl with | [_], _ => rfl
  have m5 := PySem.W.mg_of X G a5
  have F6 := fun_mk (st := s_as_set) l6 c6 k6
  have b6 := F6.binds (ps := ["sums"]) fun _ _ _ _ _ _ us hl => match us, hl with | [_], _ => rfl
  have m6 := PySem.W.mg_of X G a6
  have F7 := fun_mk (st := s_all_added) l7 c7 k7
  have b7 := F7.binds (ps := ["ones", "others"]) fun _ _ _ _ _ _ us hl => match us, hl with | [_, _], _ => rfl
  have m7 := PySem.W.mg_of X G a7
  have F8 := fun_mk (st := s_rest_of_sums) l8 c8 k8
  have b8 := F8.binds (ps := ["sums", "target"]) fun _ _ _ _ _ _ us hl => match us, hl with | [_, _], _ => rfl
  have m8 := PySem.W.mg_of X G a8
  have F9 := fun_mk (st := s__is_long_sum) l9 c9 k9
  have b9 := F9.binds (ps := ["thing"]) fun _ _ _ _ _ _ us hl => match us, hl with | [_], _ => rfl
  have m9 := PySem.W.mg_of X G a9
  have F10 := fun_mk (st := s__are_long_sums) l10 c10 k10
  have b10 := F10.binds (ps := ["thing"]) fun _ _ _ _ _ _ us hl => match us, hl with | [_], _ => rfl
  have m10 := PySem.W.mg_of X G a10
  have F11 := fun_mk (st := s__law_source) l11 c11 k11
  have b11 := F11.binds (ps := ["_law_script"]) fun _ _ _ _ _ _ us hl => match us, hl with | [_], _ => rfl
  have m11 := PySem.W.mg_of X G a11
  have F12 := fun_mk (st := s__law_draw) l12 c12 k12
  have b12 := F12.binds (ps := ["_law_source_here", "_law_bound"]) fun _ _ _ _ _ _ us hl => match us, hl with | [_, _], _ => rfl
  have m12 := PySem.W.mg_of X G a12
  have F13 := fun_mk (st := s__law_plus) l13 c13 k13
  have b13 := F13.binds (ps := ["_law_early", "_law_late"]) fun _ _ _ _ _ _ us hl => match us, hl with | [_, _], _ => rfl
  have m13 := PySem.W.mg_of X G a13
  have F14 := fun_mk (st := s__law_minus) l14 c14 k14
  have b14 := F14.binds (ps := ["_law_early", "_law_late"]) fun _ _ _ _ _ _ us hl => match us, hl with | [_, _], _ => rfl
  have m14 := PySem.W.mg_of X G a14
  have F15 := fun_mk (st := s__law_left) l15 c15 k15
  have b15 := F15.binds (ps := ["_law_lot_here", "_law_goal"]) fun _ _ _ _ _ _ us hl => match us, hl with | [_, _], _ => rfl
  have m15 := PySem.W.mg_of X G a15
  have F16 := fun_mk (st := s__law_value) l16 c16 k16
  have b16 := F16.binds (ps := ["_law_lot_here", "_law_goal"]) fun _ _ _ _ _ _ us hl => match us, hl with | [_, _], _ => rfl
  have m16 := PySem.W.mg_of X G a16
  have F17 := fun_mk (st := s__law_lot) l17 c17 k17
  have b17 := F17.binds (ps := ["_law_source_here", "_law_many", "_law_most"]) fun _ _ _ _ _ _ us hl => match us, hl with | [_, _, _], _ => rfl
  have m17 := PySem.W.mg_of X G a17
  have F18 := fun_mk (st := s__law_said) l18 c18 k18
  have b18 := F18.binds (ps := ["_law_ask"]) fun _ _ _ _ _ _ us hl => match us, hl with | [_], _ => rfl
  have m18 := PySem.W.mg_of X G a18
  have F19 := fun_mk (st := s__law_store_error) l19 c19 k19
  have b19 := F19.binds (ps := ["_law_e"]) fun _ _ _ _ _ _ us hl => match us, hl with | [_], _ => rfl
  have m19 := PySem.W.mg_of X G a19
  have F20 := fun_mk (st := s__law_are_refused) l20 c20 k20
  have b20 := F20.binds (ps := ["_law_lot_here", "_law_many"]) fun _ _ _ _ _ _ us hl => match us, hl with | [_, _], _ => rfl
  have m20 := PySem.W.mg_of X G a20
  have F21 := fun_mk (st := s_S___init__) l21 c21 k21
  have b21 := F21.binds (ps := ["self", "sums"]) fun _ _ _ _ _ _ us hl => match us, hl with | [_, _], _ => rfl
  have F22 := fun_mk (st := s_S_form) l22 c22 k22
  have b22 := F22.binds (ps := ["self"]) fun _ _ _ _ _ _ us hl => match us, hl with | [_], _ => rfl
  have F23 := fun_mk (st := s_S___len__) l23 c23 k23
  have b23 := F23.binds (ps := ["self"]) fun _ _ _ _ _ _ us hl => match us, hl with | [_], _ => rfl
  have F24 := fun_mk (st := s_S_rest_in) l24 c24 k24
  have b24 := F24.binds (ps := ["self", "target"]) fun _ _ _ _ _ _ us hl => match us, hl with | [_, _], _ => rfl
  have F25 := fun_mk (st := s_S_worth_in) l25 c25 k25
  have b25 := F25.binds (ps := ["self", "target"]) fun _ _ _ _ _ _ us hl => match us, hl with | [_, _], _ => rfl
  have F26 := fun_mk (st := s_S__check_length) l26 c26 k26
  have b26 := F26.binds (ps := ["self", "other"]) fun _ _ _ _ _ _ us hl => match us, hl with | [_, _], _ => rfl
  have F27 := fun_mk (st := s_law) l27 c27 k27
  have b27 := F27.binds (ps := ["_law_script"]) fun _ _ _ _ _ _ us hl => match us, hl with | [_], _ => rfl
  have m27 := PySem.W.mg_of X G a27
  have hU20 : ∀ p ∈ T, p.1 = PT20 → p.2 = ((envOfC "_law_are_refused" (defScope s__law_are_refused) 0 0 .none).qual ++ "<lambda>") := fun p hp e => by
    have hp := hp
    simp only [T, List.mem_cons, List.not_mem_nil, or_false] at hp
    rcases hp with rfl
    · rfl

  have u : Bb mg := ⟨PySem.W.mg_none_of X G z1, PySem.W.mg_none_of X G z2, PySem.W.mg_none_of X G z3, PySem.W.mg_none_of X G z4, PySem.W.mg_none_of X G z5, PySem.W.mg_none_of X G z6, PySem.W.mg_none_of X G z7, PySem.W.mg_none_of X G z8, PySem.W.mg_none_of X G z9, PySem.W.mg_none_of X G z10, PySem.W.mg_none_of X G z11, PySem.W.mg_none_of X G z12, PySem.W.mg_none_of X G z13, PySem.W.mg_none_of X G z14, PySem.W.mg_none_of X G z15, PySem.W.mg_none_of X G z16, PySem.W.mg_none_of X G z17, PySem.W.mg_none_of X G z18, PySem.W.mg_none_of X G z19⟩
  have bu : Bu mg := ⟨PySem.W.mg_none_of X G z1, PySem.W.mg_none_of X G z2, PySem.W.mg_none_of X G z3, PySem.W.mg_none_of X G z4, PySem.W.mg_none_of X G z5, PySem.W.mg_none_of X G z6, PySem.W.mg_none_of X G z7, PySem.W.mg_none_of X G z8, PySem.W.mg_none_of X G z10, PySem.W.mg_none_of X G z11, PySem.W.mg_none_of X G z12, PySem.W.mg_none_of X G z13⟩
  refine ⟨PySem.W.fnOf "law" "law" (defArgs s_law) (defBody s_law) (defScope s_law) .none kV27 dc27 pm27 an27 cd27 ct27, fun s v => .of_eq rfl, fun low _ _ TB => ?_⟩
  have E_InvalidSums : EDef P w K mg low 1 "InvalidSums" (er "InvalidSums") ["word", "at"] := EDef.of (okE2 (k := 0) FE sc_E_InvalidSums rfl ox xw xa) ox aE tE (PySem.W.mg_of X G nInvalidSums) bE
  have D_l_minus : Def P w K (W4T T) mg low 1 "_law_minus" 2 (Sm m_l_minus) := Dl.Fun.def_ F14 (ok_l_minus (P := P) (w := w) (base := low) (Wo := W4T T) F14 u ) m14 b14
  have D_l_plus : Def P w K (W4T T) mg low 1 "_law_plus" 2 (Sm m_l_plus) := Dl.Fun.def_ F13 (ok_l_plus (P := P) (w := w) (base := low) (Wo := W4T T) F13 u ) m13 b13
  have D_l_left : Def P w K (W4T T) mg low 2 "_law_left" 2 (Sm m_l_left) := Dl.Fun.def_ F15 (ok_l_left (P := P) (w := w) (base := low) (Wo := W4T T) F15 u D_l_minus D_l_plus) m15 b15
  have D_l_value : Def P w K (W4T T) mg low 3 "_law_value" 2 (Sm m_l_value) := Dl.Fun.def_ F16 (ok_l_value (P := P) (w := w) (base := low) (Wo := W4T T) F16 u D_l_left) m16 b16
  have D_l_draw : Def P w K (W4T T) mg low 1 "_law_draw" 2 (Sm m_l_draw) := (Dl.Fun.def_ F12 (ok_draw (P := P) (w := w) (base := low) (k := 0) F12 bu) m12 b12).imp fun _ _ _ h => h
  have D_l_lot : Def P w K (W4T T) mg low 2 "_law_lot" 3 (Sm m_l_lot) := Dl.Fun.def_ F17 (ok_l_lot (P := P) (w := w) (base := low) (Wo := W4T T) F17 u D_l_draw) m17 b17
  have D_err : DefZ P w K (W4T T) mg low 2 "_law_store_error" 1 (Sm (S_err er)) := ⟨f19, _, _, ok_err F19 u nm c1s, m19, k19, b19⟩
  have L_l_said : SaidAt P w K (W4T T) mg low 6 "_law_said" (told er) okR := ok_said F18 b18 u nm c1s m18 D_err
  have D_as_set : Def P w K (W4T T) mg low 1 "as_set" 1 (Sm m_as_set) := Dl.Fun.def_ F6 (ok_as_set (P := P) (w := w) (base := low) (Wo := W4T T) F6 u ) m6 b6
  have D_is_integer : Def P w K (W4T T) mg low 1 "is_integer" 1 (Sm m_is_integer) := Dl.Fun.def_ F4 (ok_is_integer (P := P) (w := w) (base := low) (Wo := W4T T) F4 u ) m4 b4
  have D_is_integers : Def P w K (W4T T) mg low 2 "is_integers" 1 (Sm m_is_integers) := Dl.Fun.def_ F5 (ok_is_integers (P := P) (w := w) (base := low) (Wo := W4T T) F5 u D_is_integer) m5 b5
  have D__is_long_sum : Def P w K (W4T T) mg low 3 "_is_long_sum" 1 (Sm m__is_long_sum) := Dl.Fun.def_ F9 (ok__is_long_sum (P := P) (w := w) (base := low) (Wo := W4T T) F9 u D_is_integers) m9 b9
  have D__are_long_sums : Def P w K (W4T T) mg low 4 "_are_long_sums" 1 (Sm m__are_long_sums) := Dl.Fun.def_ F10 (ok__are_long_sums (P := P) (w := w) (base := low) (Wo := W4T T) F10 u D__is_long_sum) m10 b10
  have D_S___init__ : IDefX P w K (W4T T) mg low 5 "Sums" C 1 (m_S___init__ C er) := ⟨f21, _, _, (ok_S___init__ (P := P) (w := w) (base := low) (Wo := W4T T) F21 u KL mC nF__form E_InvalidSums D_as_set D__are_long_sums), ⟨mk, a21, i21, kc⟩, mC, b21⟩
  have D_subtracted : Def P w K (W4T T) mg low 1 "subtracted" 2 (Sm m_subtracted) := Dl.Fun.def_ F3 (ok_subtracted (P := P) (w := w) (base := low) (Wo := W4T T) F3 u ) m3 b3
  have D_added : DefV P w K (W4T T) mg low 1 "added" (Sm m_added) := ⟨f2, ok_added (P := P) (w := w) (base := low) (Wo := W4T T) F2 u , m2, k2⟩
  have D_rest_of_sums : Def P w K (W4T T) mg low 2 "rest_of_sums" 2 (Sm m_rest_of_sums) := Dl.Fun.def_ F8 (ok_rest_of_sums (P := P) (w := w) (base := low) (Wo := W4T T) F8 u D_as_set D_subtracted D_added) m8 b8
  have D_S__check_length : MDefX P w K (W4T T) mg low 3 C "_check_length" 2 (SmX (m_S__check_length C er)) := ⟨f26, _, _, (ok_S__check_length (P := P) (w := w) (base := low) (Wo := W4T T) F26 u KL mC nF__form E_InvalidSums ), ⟨a26, i26, k26⟩, b26⟩
  have D_S_rest_in : MDefX P w K (W4T T) mg low 7 C "rest_in" 2 (SmX (m_S_rest_in C er)) := ⟨f24, _, _, (ok_S_rest_in (P := P) (w := w) (base := low) (Wo := W4T T) F24 u KL mC nF__form E_InvalidSums D_rest_of_sums D_S__check_length D_S___init__), ⟨a24, i24, k24⟩, b24⟩
  have D_S___len__ : MDef P w K (W4T T) mg low 1 C "__len__" 1 (Sm (m_S___len__ C)) := ⟨f23, _, _, (ok_S___len__ (P := P) (w := w) (base := low) (Wo := W4T T) F23 u KL mC nF__form ), ⟨a23, i23, k23⟩, b23⟩
  have D_S_worth_in : MDefX P w K (W4T T) mg low 9 C "worth_in" 2 (SmX (m_S_worth_in C er)) := ⟨f25, _, _, (ok_S_worth_in (P := P) (w := w) (base := low) (Wo := W4T T) F25 u KL mC nF__form D_S_rest_in D_S___len__), ⟨a25, i25, k25⟩, b25⟩
  have D_l_are_refused : Def P w K (W4T T) mg low 13 "_law_are_refused" 2 (Sm (m_l_are_refused C er (told er) okR)) := Dl.Fun.def_ F20 (ok_l_are_refused (P := P) (w := w) (base := low) (Wo := W4T T) F20 u KL mC nF__form L_l_said D_S___init__ D_S_rest_in D_S_worth_in rfl (TB (cc20, PT20) (List.Mem.head _)) (List.Mem.head _) hU20) m20 b20
  have D_S_form : PDef P w K (W4T T) mg low 1 C "form" (Sm (m_S_form C)) := ⟨p22, f22, _, _, (ok_S_form (P := P) (w := w) (base := low) (Wo := W4T T) F22 u KL mC nF__form ), ⟨a22, g22, t22, ⟨_, r22⟩⟩, b22⟩
  exact ok_law_of (k := 13) F27 ((ok_reader (P := P) (w := w) (base := low) (k := 0) F11).mono (by decide)) m11 k11 b11 fun cdv A outer s H E M t hcd hr hg hl hd0 => (ok_law (Wo := W4T T) u KL mC nF__form D_l_left D_l_value D_l_lot D_l_draw D_l_are_refused D_l_plus D_S_worth_in D_S___init__ D_S_form D_S_rest_in hr hg).run t (fun o _ => o = .rt (.d (.bool true))) _ (law_true ⟨hl, by omega, by omega⟩ fun _ => rfl) fun o t2 e => by
    subst e
    rfl
end K36
end
section
open PySem PySem.W PyProof.Rows
set_option maxRecDepth 100000
set_option maxHeartbeats 0 in
theorem PySem.Challenge.cw_ownrights_k36_rests_told_holds : PySem.Challenge.rw_ownrights_k36_rests_told.Holds := by
  w_on; o_law; k_head; (case hw => w_witness2)
  k_fill
  refine Dx.walk_ofGT (l := PySem.Challenge.rw_ownrights_k36_rests_told) (n := 63) (k := 14) (x := "_law_script") (cs := [(417, 413)]) (sp := fun w => Dx.spLawT _ [(413, ((PyProof.Rows.envOfC "_law_are_refused" (L2.defScope K36.s__law_are_refused) 0 0 .none).qual ++ "<lambda>"))]) rfl (by decide) rfl ⟨rfl, by decide, by decide⟩ (fun w h Y => PySem.W.km_in_of Y) (fun w h Y => Dx.tabs_all (PySem.W.km_tabs_of Y) (by decide)) (fun w => ?off) (fun w => ?hh) ?F (fun _ _ a ns hl t0 hS => ⟨a, ns, rfl, hS, Dx.tabs_start t0 rfl, fun _ => rfl⟩)
  case off => intro p hp; simp only [List.mem_cons, List.not_mem_nil, or_false] at hp; rcases hp with rfl <;> kernel_rfl
  case hh => intro p hp; simp only [List.mem_cons, List.not_mem_nil, or_false] at hp; rcases hp with rfl <;> kernel_rfl
  case F =>
    intro w mg fa h KX G hmg
    refine' K36.all_mk KX G hmg ?aC ?pg ?hd ?po ?sa ?ha ?hn ?ht ?hm ?sf ?ne ?mk ?kc ?nF__form ?nRightError ?nPaperError ?nStoreError ?nServiceError ?nTextError ?nInvalidPaper ?nInvalidSums ?nInvalidFamily ?nUnknownHand ?nUnfitRule ?nUnknownDeed ?xhg ?xhk ?xhs ?xhd ?xha ?xhm ?xw ?xa ?xiP ?xiS ?xiV ?xiT ?xi6 ?xi1 ?xi2 ?xi3 ?xi4 ?xi5 ?xex ?oc ?rv ?osa ?oty ?okc ?aE ?tE ?lE ?cE ?kE ?a2 ?l2 ?c2 ?k2 ?a3 ?l3 ?c3 ?k3 ?a4 ?l4 ?c4 ?k4 ?a5 ?l5 ?c5 ?k5 ?a6 ?l6 ?c6 ?k6 ?a7 ?l7 ?c7 ?k7 ?a8 ?l8 ?c8 ?k8 ?a9 ?l9 ?c9 ?k9 ?a10 ?l10 ?c10 ?k10 ?a11 ?l11 ?c11 ?k11 ?a12 ?l12 ?c12 ?k12 ?a13 ?l13 ?c13 ?k13 ?a14 ?l14 ?c14 ?k14 ?a15 ?l15 ?c15 ?k15 ?a16 ?l16 ?c16 ?k16 ?a17 ?l17 ?c17 ?k17 ?a18 ?l18 ?c18 ?k18 ?a19 ?l19 ?c19 ?k19 ?a20 ?l20 ?c20 ?k20 ?a21 ?i21 ?l21 ?c21 ?k21 ?a22 ?g22 ?t22 ?r22 ?l22 ?c22 ?k22 ?a23 ?i23 ?l23 ?c23 ?k23 ?a24 ?i24 ?l24 ?c24 ?k24 ?a25 ?i25 ?l25 ?c25 ?k25 ?a26 ?i26 ?l26 ?c26 ?k26 ?a27 ?l27 ?c27 ?k27 ?z1 ?z2 ?z3 ?z4 ?z5 ?z6 ?z7 ?z8 ?z9 ?z10 ?z11 ?z12 ?z13 ?z14 ?z15 ?z16 ?z17 ?z18 ?z19
    (case aC => k_is) ; (case pg => k_is) ; (case hd => k_is) ; (case po => k_is) ; (case sa => k_is) ; (case ha => k_is) ; (case hn => k_is) ; (case ht => k_is) ; (case hm => k_is) ; (case sf => k_is) ; (case ne => k_is) ; (case mk => k_is) ; (case kc => k_is) ; (case nF__form => k_is) ; (case nRightError => k_is) ; (case nPaperError => k_is) ; (case nStoreError => k_is) ; (case nServiceError => k_is) ; (case nTextError => k_is) ; (case nInvalidPaper => k_is) ; (case nInvalidSums => k_is) ; (case nInvalidFamily => k_is) ; (case nUnknownHand => k_is) ; (case nUnfitRule => k_is) ; (case nUnknownDeed => k_is) ; (case xhg => k_is) ; (case xhk => k_is) ; (case xhs => k_is) ; (case xhd => k_is) ; (case xha => k_is) ; (case xhm => k_is) ; (case xw => k_is) ; (case xa => k_is) ; (case oc => k_is) ; (case osa => k_is) ; (case oty => k_is) ; (case okc => k_is) ; (case aE => k_is) ; (case tE => k_is) ; (case lE => k_is) ; (case cE => k_is) ; (case kE => k_is) ; (case a2 => k_is) ; (case l2 => k_is) ; (case c2 => k_is) ; (case k2 => k_is) ; (case a3 => k_is) ; (case l3 => k_is) ; (case c3 => k_is) ; (case k3 => k_is) ; (case a4 => k_is) ; (case l4 => k_is) ; (case c4 => k_is) ; (case k4 => k_is) ; (case a5 => k_is) ; (case l5 => k_is) ; (case c5 => k_is) ; (case k5 => k_is) ; (case a6 => k_is) ; (case l6 => k_is) ; (case c6 => k_is) ; (case k6 => k_is) ; (case a7 => k_is) ; (case l7 => k_is) ; (case c7 => k_is) ; (case k7 => k_is) ; (case a8 => k_is) ; (case l8 => k_is) ; (case c8 => k_is) ; (case k8 => k_is) ; (case a9 => k_is) ; (case l9 => k_is) ; (case c9 => k_is) ; (case k9 => k_is) ; (case a10 => k_is) ; (case l10 => k_is) ; (case c10 => k_is) ; (case k10 => k_is) ; (case a11 => k_is) ; (case l11 => k_is) ; (case c11 => k_is) ; (case k11 => k_is) ; (case a12 => k_is) ; (case l12 => k_is) ; (case c12 => k_is) ; (case k12 => k_is) ; (case a13 => k_is) ; (case l13 => k_is) ; (case c13 => k_is) ; (case k13 => k_is) ; (case a14 => k_is) ; (case l14 => k_is) ; (case c14 => k_is) ; (case k14 => k_is) ; (case a15 => k_is) ; (case l15 => k_is) ; (case c15 => k_is) ; (case k15 => k_is) ; (case a16 => k_is) ; (case l16 => k_is) ; (case c16 => k_is) ; (case k16 => k_is) ; (case a17 => k_is) ; (case l17 => k_is) ; (case c17 => k_is) ; (case k17 => k_is) ; (case a18 => k_is) ; (case l18 => k_is) ; (case c18 => k_is) ; (case k18 => k_is) ; (case a19 => k_is) ; (case l19 => k_is) ; (case c19 => k_is) ; (case k19 => k_is) ; (case a20 => k_is) ; (case l20 => k_is) ; (case c20 => k_is) ; (case k20 => k_is) ; (case a21 => k_is) ; (case i21 => k_is) ; (case l21 => k_is) ; (case c21 => k_is) ; (case k21 => k_is) ; (case a22 => k_is) ; (case g22 => k_is) ; (case t22 => k_is) ; (case r22 => k_is) ; (case l22 => k_is) ; (case c22 => k_is) ; (case k22 => k_is) ; (case a23 => k_is) ; (case i23 => k_is) ; (case l23 => k_is) ; (case c23 => k_is) ; (case k23 => k_is) ; (case a24 => k_is) ; (case i24 => k_is) ; (case l24 => k_is) ; (case c24 => k_is) ; (case k24 => k_is) ; (case a25 => k_is) ; (case i25 => k_is) ; (case l25 => k_is) ; (case c25 => k_is) ; (case k25 => k_is) ; (case a26 => k_is) ; (case i26 => k_is) ; (case l26 => k_is) ; (case c26 => k_is) ; (case k26 => k_is) ; (case a27 => k_is) ; (case l27 => k_is) ; (case c27 => k_is) ; (case k27 => k_is) ; (case z1 => k_is) ; (case z2 => k_is) ; (case z3 => k_is) ; (case z4 => k_is) ; (case z5 => k_is) ; (case z6 => k_is) ; (case z7 => k_is) ; (case z8 => k_is) ; (case z9 => k_is) ; (case z10 => k_is) ; (case z11 => k_is) ; (case z12 => k_is) ; (case z13 => k_is) ; (case z14 => k_is) ; (case z15 => k_is) ; (case z16 => k_is) ; (case z17 => k_is) ; (case z18 => k_is) ; (case z19 => k_is) ; (case xiP => first | kit_is | kernel_rfl | decide +kernel) ; (case xiS => first | kit_is | kernel_rfl | decide +kernel) ; (case xiV => first | kit_is | kernel_rfl | decide +kernel) ; (case xiT => first | kit_is | kernel_rfl | decide +kernel) ; (case xi6 => first | kit_is | kernel_rfl | decide +kernel) ; (case xi1 => first | kit_is | kernel_rfl | decide +kernel) ; (case xi2 => first | kit_is | kernel_rfl | decide +kernel) ; (case xi3 => first | kit_is | kernel_rfl | decide +kernel) ; (case xi4 => first | kit_is | kernel_rfl | decide +kernel) ; (case xi5 => first | kit_is | kernel_rfl | decide +kernel) ; (case xex => first | kit_is | kernel_rfl | decide +kernel) ; (case rv => decide +kernel)
end
