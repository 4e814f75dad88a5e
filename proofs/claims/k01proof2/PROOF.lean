import PyProof.Rows.All
import HandS.ForMost
import HandS.Deep
import HandS.IsInst
import HandS.Flow
import HandS.Star
import HandS.Style
import HandS.Codes
import HandS.TupAny
import HandS.TupMul
import HandS.WrittenGet
import HandS.Wide
import PyProof.ReprRoads
import PyProof.StrLawsRepr
import HandS.TupLe
import PyProof.Rows.IntBool
import PyProof.StrBlock2
import HandS.EndBits
import HandS.TupSets
import PyProof.Rows.StrJoinRep
import PySem.Challenge.RW_ownrights_k01_kinds_and_forms
set_option Elab.async false
set_option linter.all false
set_option autoImplicit false
section
set_option maxRecDepth 100000
set_option maxHeartbeats 4000000
namespace Dl
open PySem PySem.Spec PyProof.Rows L2

/-! ### data in a heap: a list is one that stands in it, a tuple may be a written one -/
mutual
inductive De (K : PySem.W.Frag) (H : Hp) : V → PyData → Prop
  | non : De K H .non .none
  | bl (b : Bool) : De K H (.bl b) (.bool b)
  | int (i : Int) : De K H (.int i) (.int i)
  | str (x : Str) : De K H (.str x) (.str x)
  | lst {a : Addr} {vs : List V} {ds : List PyData} : H a = some (.lst vs) → DeAll K H vs ds → De K H (.ref a) (.list ds)
  | tup {a : Addr} {vs : List V} {ds : List PyData} : SqT K H a vs → DeAll K H vs ds → De K H (.ref a) (.tuple ds)
inductive DeAll (K : PySem.W.Frag) (H : Hp) : List V → List PyData → Prop
  | nil : DeAll K H [] []
  | cons {v : V} {vs : List V} {d : PyData} {ds : List PyData} : De K H v d → DeAll K H vs ds → DeAll K H (v :: vs) (d :: ds)
end
mutual
theorem De.dp {K : PySem.W.Frag} {G : Hp} : ∀ (d : PyData) (v : V), De K G v d → Dp K G v d
  | .none, _, h => by cases h; exact .non
  | .bool b, _, h => by cases h; exact .bl b
  | .int i, _, h => by cases h; exact .int i
  | .str x, _, h => by cases h; exact .str x
  | .list ds, _, h => by
    cases h with
    | lst hs ha => exact .lst (.inl (.inl hs)) (DeAll.dp ds _ ha)
  | .tuple ds, _, h => by
    cases h with
    | tup hs ha => exact .tup hs (DeAll.dp ds _ ha)
  | .dict _, _, h => by cases h
theorem DeAll.dp {K : PySem.W.Frag} {G : Hp} : ∀ (ds : List PyData) (vs : List V), DeAll K G vs ds → DpAll K G vs ds
  | [], _, h => by cases h; exact .nil
  | d :: ds, _, h => by
    cases h with
    | cons h1 h2 => exact .cons (De.dp d _ h1) (DeAll.dp ds _ h2)
end
mutual
theorem De.up {K : PySem.W.Frag} {G G' : Hp} (e : Same G G') : ∀ (d : PyData) (v : V), De K G v d → De K G' v d
  | .none, _, h => by cases h; exact .non
  | .bool b, _, h => by cases h; exact .bl b
  | .int i, _, h => by cases h; exact .int i
  | .str x, _, h => by cases h; exact .str x
  | .list ds, _, h => by
    cases h with
    | lst hs ha => exact .lst (e _ _ hs) (DeAll.up e ds _ ha)
  | .tuple ds, _, h => by
    cases h with
    | tup hs ha =>
      refine .tup ?_ (DeAll.up e ds _ ha)
      rcases hs with (q | ⟨o, q⟩) | q
      · exact .inl (.inl (e _ _ q))
      · exact .inl (.inr ⟨o, e _ _ q⟩)
      · exact .inr q
  | .dict _, _, h => by cases h
theorem DeAll.up {K : PySem.W.Frag} {G G' : Hp} (e : Same G G') : ∀ (ds : List PyData) (vs : List V), DeAll K G vs ds → DeAll K G' vs ds
  | [], _, h => by cases h; exact .nil
  | d :: ds, _, h => by
    cases h with
    | cons h1 h2 => exact .cons (De.up e d _ h1) (DeAll.up e ds _ h2)
end
section
variable {K : PySem.W.Frag} {G : Hp}
theorem DeAll.length : ∀ {vs : List V} {ds : List PyData}, DeAll K G vs ds → vs.length = ds.length
  | _, _, .nil => rfl
  | _, _, .cons _ h => by rw [List.length_cons, List.length_cons, DeAll.length h]
theorem DeAll.at_ : ∀ {vs : List V} {ds : List PyData} {i : Nat} {d : PyData}, DeAll K G vs ds → ds[i]? = some d → ∃ v, vs[i]? = some v ∧ De K G v d
  | _, _, _, _, .nil, h => by simp at h
  | _, _, 0, _, .cons h _, e => by
    have e' := Option.some.inj e
    subst e'
    exact ⟨_, rfl, h⟩
  | _, _, i + 1, _, .cons _ h, e => DeAll.at_ (i := i) h e
theorem DeAll.ofV : ∀ {vs : List V} {ds : List PyData} {i : Nat} {v : V}, DeAll K G vs ds → vs[i]? = some v → ∃ d, ds[i]? = some d ∧ De K G v d
  | _, _, _, _, .nil, h => by simp at h
  | _, _, 0, _, .cons h _, e => by
    have e' := Option.some.inj e
    subst e'
    exact ⟨_, rfl, h⟩
  | _, _, i + 1, _, .cons _ h, e => DeAll.ofV (i := i) h e
theorem DeAll.app : ∀ {vs ws : List V} {ds es : List PyData}, DeAll K G vs ds → DeAll K G ws es → DeAll K G (vs ++ ws) (ds ++ es)
  | _, _, _, _, .nil, h => h
  | _, _, _, _, .cons a b, h => .cons a (DeAll.app b h)
theorem DeAll.drop : ∀ (n : Nat) {vs : List V} {ds : List PyData}, DeAll K G vs ds → DeAll K G (vs.drop n) (ds.drop n)
  | 0, _, _, h => h
  | _ + 1, _, _, .nil => .nil
  | n + 1, _, _, .cons _ h => DeAll.drop n h
theorem DeAll.take : ∀ (n : Nat) {vs : List V} {ds : List PyData}, DeAll K G vs ds → DeAll K G (vs.take n) (ds.take n)
  | 0, _, _, _ => .nil
  | _ + 1, _, _, .nil => .nil
  | n + 1, _, _, .cons a h => .cons a (DeAll.take n h)
theorem DeAll.set {d : PyData} {v : V} (hv : De K G v d) : ∀ (n : Nat) {vs : List V} {ds : List PyData}, DeAll K G vs ds → DeAll K G (vs.set n v) (ds.set n d)
  | _, _, _, .nil => .nil
  | 0, _, _, .cons _ h => .cons hv h
  | n + 1, _, _, .cons a h => .cons a (DeAll.set hv n h)
theorem DeAll.rev : ∀ {vs : List V} {ds : List PyData}, DeAll K G vs ds → DeAll K G vs.reverse ds.reverse
  | _, _, .nil => .nil
  | _, _, .cons a h => by
    rw [List.reverse_cons, List.reverse_cons]
    exact DeAll.app (DeAll.rev h) (.cons a .nil)
theorem DeAll.tup : ∀ {vs : List V} {ds : List PyData}, DeAll K G vs ds → ∀ {a : Addr}, SqT K G a vs → De K G (.ref a) (.tuple ds) := fun h _ e => .tup e h
theorem De.tupE {v : V} {ds : List PyData} (h : De K G v (.tuple ds)) : ∃ a vs, v = .ref a ∧ SqT K G a vs ∧ DeAll K G vs ds := by
  cases h with
  | tup a b => exact ⟨_, _, rfl, a, b⟩
theorem De.lstE {v : V} {ds : List PyData} (h : De K G v (.list ds)) : ∃ a vs, v = .ref a ∧ G a = some (.lst vs) ∧ DeAll K G vs ds := by
  cases h with
  | lst a b => exact ⟨_, _, rfl, a, b⟩
theorem De.intE {v : V} {i : Int} (h : De K G v (.int i)) : v = .int i := by cases h; rfl
theorem De.blE {v : V} {i : Bool} (h : De K G v (.bool i)) : v = .bl i := by cases h; rfl
theorem De.strE {v : V} {i : Str} (h : De K G v (.str i)) : v = .str i := by cases h; rfl
theorem De.nonE {v : V} (h : De K G v .none) : v = .non := by cases h; rfl
theorem DeAll.ints : ∀ {vs : List V} {ns : List Int}, DeAll K G vs (ns.map PyData.int) → vs = ns.map V.int
  | _, [], .nil => rfl
  | _, n :: ns, .cons a h => by rw [De.intE a, DeAll.ints h]; rfl
theorem DeAll.ofInts : ∀ (ns : List Int), DeAll K G (ns.map V.int) (ns.map PyData.int)
  | [] => .nil
  | n :: ns => .cons (.int n) (DeAll.ofInts ns)
theorem DeAll.bls : ∀ {vs : List V} {ns : List Bool}, DeAll K G vs (ns.map PyData.bool) → vs = ns.map V.bl
  | _, [], .nil => rfl
  | _, n :: ns, .cons a h => by rw [De.blE a, DeAll.bls h]; rfl
theorem DeAll.strs : ∀ {vs : List V} {ns : List Str}, DeAll K G vs (ns.map PyData.str) → vs = ns.map V.str
  | _, [], .nil => rfl
  | _, n :: ns, .cons a h => by rw [De.strE a, DeAll.strs h]; rfl
end

/-! ### the reader, the base, the slots -/
/-- what a reader of the script holds: its cells, the next one, the rest of a great one, how often it was asked -/
structure Rs where
  ns : List Int
  nxt : Int
  rest : Int
  draws : Int
abbrev WO := Rs → Hp → HO → Prop
/-- r: an object that defs may turn; Wo tells what it holds -/
structure Md (K : PySem.W.Frag) (Wo : WO) where
  r : Addr
  up : ∀ {t : Rs} {G G' : Hp} {o : HO}, Same G G' → Wo t G o → Wo t G' o
  G0 : Hp
  H0 : Hp
abbrev Md.at_ {K : PySem.W.Frag} {Wo : WO} (M : Md K Wo) (G H : Hp) : Md K Wo := { M with G0 := G, H0 := H }
inductive B where
  | un
  | rd
  | d (x : PyData)
  | own (xs : List PyData)
section
variable {K : PySem.W.Frag} {Wo : WO} {M : Md K Wo} {t t1 t' : Rs} {G H G1 H1 G2 H2 G' H' : Hp}
structure Stp {Wo : WO} (M : Md K Wo) (t : Rs) (G H G' H' : Hp) : Prop where
  gg : Same G G'
  hh : ∀ a o, a ≠ M.r → H a = some o → H' a = some o
  fr : ∀ a, H a ≠ none → G a = none → G' a = none
  sub : Same G' H'
  rd : ∃ o, H' M.r = some o ∧ Wo t G' o
theorem Stp.trans (a : Stp M t G H G1 H1) (b : Stp M t1 G1 H1 G2 H2) : Stp M t1 G H G2 H2 where
  gg := a.gg.trans b.gg
  hh := fun x o n e => b.hh x o n (a.hh x o n e)
  fr := fun x e g => b.fr x (fun z => by
    by_cases hx : x = M.r
    · obtain ⟨o, q, _⟩ := a.rd
      rw [hx, q] at z
      cases z
    · cases q : H x with
      | none => exact e q
      | some o =>
        rw [a.hh x o hx q] at z
        cases z) (a.fr x e g)
  sub := b.sub
  rd := b.rd
theorem Stp.alive (a : Stp M t G H G1 H1) {x : Addr} (e : H x ≠ none) : H1 x ≠ none := fun z => by
  by_cases hx : x = M.r
  · obtain ⟨o, q, _⟩ := a.rd
    rw [hx, q] at z
    cases z
  · cases q : H x with
    | none => exact e q
    | some o =>
      rw [a.hh x o hx q] at z
      cases z
structure Ok {Wo : WO} (M : Md K Wo) (t : Rs) (G H : Hp) : Prop where
  sub : Same G H
  gr : G M.r = none
  rd : ∃ o, H M.r = some o ∧ Wo t G o
theorem Ok.refl (k : Ok M t G H) : Stp M t G H G H := ⟨Same.refl G, fun _ _ _ e => e, fun _ _ e => e, k.sub, k.rd⟩
theorem Ok.step (k : Ok M t G H) (a : Stp M t1 G H G1 H1) : Ok M t1 G1 H1 := ⟨a.sub, a.fr _ (fun z => by
  obtain ⟨o, q, _⟩ := k.rd
  rw [q] at z
  cases z) k.gr, a.rd⟩
/-- a new object of data -/
theorem Ok.lay {p : Addr} {o : HO} (k : Ok M t G H) (hp : H p = none) : Stp M t G H (upd G p o) (upd H p o) where
  gg := fun a u e => by
    rw [upd_ne (ne_of_none (k.sub a u e) hp)]
    exact e
  hh := fun a u _ e => by
    rw [upd_ne (ne_of_none e hp)]
    exact e
  fr := fun a e g => by
    by_cases ha : a = p
    · rw [ha] at e
      exact absurd hp e
    · rw [upd_ne ha]
      exact g
  sub := fun a u e => by
    by_cases ha : a = p
    · subst ha
      rw [upd_same] at e ⊢
      exact e
    · rw [upd_ne ha] at e ⊢
      exact k.sub a u e
  rd := by
    obtain ⟨o', q, w⟩ := k.rd
    refine ⟨o', ?_, M.up (fun a u e => ?_) w⟩
    · rw [upd_ne (ne_of_none q hp)]
      exact q
    · rw [upd_ne (ne_of_none (k.sub a u e) hp)]
      exact e
/-- a new object that is nobody's yet -/
theorem Ok.layO {p : Addr} {o : HO} (k : Ok M t G H) (hp : H p = none) : Stp M t G H G (upd H p o) where
  gg := Same.refl G
  hh := fun a u _ e => by
    rw [upd_ne (ne_of_none e hp)]
    exact e
  fr := fun a e g => g
  sub := fun a u e => by
    rw [upd_ne (ne_of_none (k.sub a u e) hp)]
    exact k.sub a u e
  rd := by
    obtain ⟨o', q, w⟩ := k.rd
    refine ⟨o', ?_, w⟩
    rw [upd_ne (ne_of_none q hp)]
    exact q
/-- an own new list becomes data -/
theorem Stp.freeze {l : Addr} {o : HO} (a : Stp M t G H G1 H1) (n : H l = none) (g : G1 l = none) (e : H1 l = some o) : Stp M t G H (upd G1 l o) H1 where
  gg := fun b u q => by
    have q1 := a.gg b u q
    rw [upd_ne (ne_of_none q1 g)]
    exact q1
  hh := a.hh
  fr := fun b q z => by
    by_cases hb : b = l
    · rw [hb] at q
      exact absurd n q
    · rw [upd_ne hb]
      exact a.fr b q z
  sub := fun b u q => by
    by_cases hb : b = l
    · subst hb
      rw [upd_same] at q
      rw [e]
      exact q
    · rw [upd_ne hb] at q
      exact a.sub b u q
  rd := by
    obtain ⟨o', q, w⟩ := a.rd
    refine ⟨o', q, M.up (fun b u z => ?_) w⟩
    rw [upd_ne (ne_of_none z g)]
    exact z

def Slot {Wo : WO} (M : Md K Wo) (G H : Hp) (u : Option (Option V)) : B → Prop
  | .un => True
  | .rd => u = some (some (.ref M.r))
  | .d x => ∃ v, u = some (some v) ∧ De K G v x
  | .own xs => ∃ l vs, u = some (some (.ref l)) ∧ l ≠ M.r ∧ G l = none ∧ H l = some (.lst vs) ∧ M.H0 l = none ∧ DeAll K G vs xs
structure Sat {Wo : WO} (M : Md K Wo) (t : Rs) (G H : Hp) (σ : L2.St) (ρ : List B) : Prop where
  st : Stp M t M.G0 M.H0 G H
  ok : Ok M t G H
  len : σ.length = ρ.length
  at_ : ∀ (i : Nat) (b : B), ρ[i]? = some b → Slot M G H σ[i]? b
  dis : ∀ (i j : Nat) (xs ys : List PyData) (l : Addr), i ≠ j → ρ[i]? = some (.own xs) → ρ[j]? = some (.own ys) → σ[i]? = some (some (.ref l)) → σ[j]? = some (some (.ref l)) → False
theorem Slot.step {u : Option (Option V)} {b : B} (s : Slot M G H u b) (a : Stp M t G H G1 H1) : Slot M G1 H1 u b := by
  cases b with
  | un => trivial
  | rd => exact s
  | d x =>
    obtain ⟨v, e, h⟩ := s
    exact ⟨v, e, De.up a.gg x v h⟩
  | own xs =>
    obtain ⟨l, vs, e, n, g, h, z, q⟩ := s
    exact ⟨l, vs, e, n, a.fr l (by rw [h]; simp) g, a.hh l _ n h, z, DeAll.up a.gg xs vs q⟩
theorem Sat.step {σ : L2.St} {ρ : List B} (s : Sat M t G H σ ρ) (a : Stp M t1 G H G1 H1) : Sat M t1 G1 H1 σ ρ :=
  ⟨s.st.trans a, s.ok.step a, s.len, fun i b e => (s.at_ i b e).step a, s.dis⟩
end
end Dl
end
section
set_option maxRecDepth 100000
set_option maxHeartbeats 4000000
namespace Dl
open PySem PySem.Spec PyProof.Rows L2

/-! ### the readings that a piece of text has by itself -/
@[irreducible] def TeOf (X : Cx) (e : Expr) : TE := fun σ H Q => ∀ (pins : List (Addr × Obj)) (s : Shared), Inv X pins σ H s → wpAny (model X.prog X.w) X.A (eval e X.env) (EP X pins σ Q) X.xe s
@[irreducible] def TtOf (X : Cx) (e : Expr) : TT := fun σ H Q => ∀ (pins : List (Addr × Obj)) (s : Shared), Inv X pins σ H s → wpAny (model X.prog X.w) X.A (isTrue e X.env (eval e X.env)) (TP X pins σ Q) X.xe s
@[irreducible] def TwOf (X : Cx) (e : Expr) : TT := fun σ H Q => ∀ (whole : Sem Value) (pins : List (Addr × Obj)) (s : Shared), Inv X pins σ H s → wpAny (model X.prog X.w) X.A (isTrue e X.env whole) (TP X pins σ Q) X.xe s
@[irreducible] def TaOf (X : Cx) (es : List Expr) : TA := fun σ H Q => ∀ (pos : Pos) (pins : List (Addr × Obj)) (s : Shared), Inv X pins σ H s → wpAny (model X.prog X.w) X.A (spliced (backTo pos (starEach es X.env))) (AP X pins σ Q) X.xe s
@[irreducible] def TsOf (X : Cx) (st : Stmt) : TS := fun D σ H => ∀ (pins : List (Addr × Obj)) (s : Shared), Inv X pins σ H s → wpAny (model X.prog X.w) X.A (exec st X.env) (SP X pins D) X.xe s
@[irreducible] def TssOf (X : Cx) (st : List Stmt) : TS := fun D σ H => ∀ (pins : List (Addr × Obj)) (s : Shared), Inv X pins σ H s → wpAny (model X.prog X.w) X.A (execs st X.env) (SP X pins D) X.xe s
section
variable {X : Cx} {σ : L2.St} {H : Hp}
theorem peT {e : Expr} : PE X e (TeOf X e) := by unfold TeOf; exact ⟨fun pins s σ H Q I h => h pins s I⟩
theorem ptT {e : Expr} : PT X e (TtOf X e) := by unfold TtOf; exact ⟨fun pins s σ H Q I h => h pins s I⟩
theorem pwT {e : Expr} : PW X e (TwOf X e) := by unfold TwOf; exact ⟨fun w pins s σ H Q I h => h w pins s I⟩
theorem paT {e : List Expr} : PA X e (TaOf X e) := by unfold TaOf; exact ⟨fun pos pins s σ H Q I h => h pos pins s I⟩
theorem psT {e : Stmt} : PS X e (TsOf X e) := by unfold TsOf; exact ⟨fun pins s σ H D I h => h pins s I⟩
theorem pssT {e : List Stmt} : PSs X e (TssOf X e) := by unfold TssOf; exact ⟨fun pins s σ H D I h => h pins s I⟩
theorem TeOf.of {e : Expr} {te : TE} (h : PE X e te) {Q : VK} (q : te σ H Q) : TeOf X e σ H Q := by unfold TeOf; exact fun pins s I => h.run pins s σ H Q I q
theorem TtOf.of {e : Expr} {te : TT} (h : PT X e te) {Q : Bool → Hp → Prop} (q : te σ H Q) : TtOf X e σ H Q := by unfold TtOf; exact fun pins s I => h.run pins s σ H Q I q
theorem TwOf.of {e : Expr} {te : TT} (h : PW X e te) {Q : Bool → Hp → Prop} (q : te σ H Q) : TwOf X e σ H Q := by unfold TwOf; exact fun w pins s I => h.run w pins s σ H Q I q
theorem TaOf.of {e : List Expr} {te : TA} (h : PA X e te) {Q : List V → Hp → Prop} (q : te σ H Q) : TaOf X e σ H Q := by unfold TaOf; exact fun pos pins s I => h.run pos pins s σ H Q I q
theorem TsOf.of {e : Stmt} {te : TS} (h : PS X e te) {D : Ends} (q : te D σ H) : TsOf X e D σ H := by unfold TsOf; exact fun pins s I => h.run pins s σ H D I q
theorem TssOf.of {e : List Stmt} {te : TS} (h : PSs X e te) {D : Ends} (q : te D σ H) : TssOf X e D σ H := by unfold TssOf; exact fun pins s I => h.run pins s σ H D I q
end

/-! ### the judgements: data, a new list, a test, arguments -/
section
variable {K : PySem.W.Frag} {Wo : WO} (M : Md K Wo)
def DD (te : TE) (ρ : List B) (t : Rs) (P : PyData → Rs → Prop) : Prop := ∀ (σ : L2.St) (G H : Hp), Sat M t G H σ ρ → ∀ Q : VK,
  (∀ (G' H' : Hp) (v : V) (x : PyData) (t' : Rs), Stp M t' G H G' H' → De K G' v x → P x t' → Q v H') → te σ H Q
def DL (te : TE) (ρ : List B) (t : Rs) (P : List PyData → Rs → Prop) : Prop := ∀ (σ : L2.St) (G H : Hp), Sat M t G H σ ρ → ∀ Q : VK,
  (∀ (G' H' : Hp) (l : Addr) (vs : List V) (xs : List PyData) (t' : Rs), Stp M t' G H G' H' → H l = none → G' l = none → H' l = some (.lst vs) → DeAll K G' vs xs → P xs t' → Q (.ref l) H') → te σ H Q
def DT (tt : TT) (ρ : List B) (t : Rs) (P : Bool → Rs → Prop) : Prop := ∀ (σ : L2.St) (G H : Hp), Sat M t G H σ ρ → ∀ Q : Bool → Hp → Prop,
  (∀ (G' H' : Hp) (b : Bool) (t' : Rs), Stp M t' G H G' H' → P b t' → Q b H') → tt σ H Q
/-- what an argument is -/
inductive Arg (G : Hp) : V → B → Prop
  | d {v : V} {x : PyData} : De K G v x → Arg G v (.d x)
  | rd : Arg G (.ref M.r) .rd
inductive ArgAll (G : Hp) : List V → List B → Prop
  | nil : ArgAll G [] []
  | cons {v : V} {vs : List V} {b : B} {bs : List B} : Arg M G v b → ArgAll G vs bs → ArgAll G (v :: vs) (b :: bs)
def DA (ta : TA) (ρ : List B) (t : Rs) (P : List B → Rs → Prop) : Prop := ∀ (σ : L2.St) (G H : Hp), Sat M t G H σ ρ → ∀ Q : List V → Hp → Prop,
  (∀ (G' H' : Hp) (vs : List V) (bs : List B) (t' : Rs), Stp M t' G H G' H' → ArgAll M G' vs bs → P bs t' → Q vs H') → ta σ H Q
end
section
variable {K : PySem.W.Frag} {Wo : WO} {M : Md K Wo} {G G' : Hp}
theorem Arg.up (e : Same G G') {v : V} {b : B} (h : Arg M G v b) : Arg M G' v b := by
  cases h with
  | d h => exact .d (De.up e _ _ h)
  | rd => exact .rd
theorem ArgAll.up (e : Same G G') : ∀ {vs : List V} {bs : List B}, ArgAll M G vs bs → ArgAll M G' vs bs
  | _, _, .nil => .nil
  | _, _, .cons a h => .cons (a.up e) (ArgAll.up e h)
/-- arguments that are data -/
theorem ArgAll.data : ∀ {vs : List V} {ds : List PyData}, ArgAll M G vs (ds.map B.d) → DeAll K G vs ds
  | _, [], .nil => .nil
  | _, _ :: _, .cons (.d a) h => .cons a (ArgAll.data h)
end
section
variable {X : Cx} {Wo : WO} (M : Md X.K Wo)
abbrev JD (e : Expr) (ρ : List B) (t : Rs) (P : PyData → Rs → Prop) : Prop := DD M (TeOf X e) ρ t P
abbrev JL (e : Expr) (ρ : List B) (t : Rs) (P : List PyData → Rs → Prop) : Prop := DL M (TeOf X e) ρ t P
abbrev JT (e : Expr) (ρ : List B) (t : Rs) (P : Bool → Rs → Prop) : Prop := DT M (TtOf X e) ρ t P
abbrev JW (e : Expr) (ρ : List B) (t : Rs) (P : Bool → Rs → Prop) : Prop := DT M (TwOf X e) ρ t P
abbrev JA (es : List Expr) (ρ : List B) (t : Rs) (P : List B → Rs → Prop) : Prop := DA M (TaOf X es) ρ t P
end
section
variable {K : PySem.W.Frag} {Wo : WO} {M : Md K Wo} {te ta tb : TE} {ρ : List B} {t : Rs} {P : PyData → Rs → Prop}
theorem DL.toD (h : DL M te ρ t fun xs t' => P (.list xs) t') : DD M te ρ t P := fun σ G H S Q q =>
  h σ G H S Q fun G' H' l vs xs t' s n g e a p => q (upd G' l (.lst vs)) H' (.ref l) (.list xs) t' (s.freeze n g e) (.lst upd_same (DeAll.up (fun b u z => by
    rw [upd_ne (ne_of_none z g)]
    exact z) xs vs a)) p
theorem DD.imp {P' : PyData → Rs → Prop} (h : DD M te ρ t P) (i : ∀ x t', P x t' → P' x t') : DD M te ρ t P' := fun σ G H S Q q => h σ G H S Q fun G' H' v x t' s d p => q G' H' v x t' s d (i x t' p)
theorem DL.imp {P P' : List PyData → Rs → Prop} (h : DL M te ρ t P) (i : ∀ x t', P x t' → P' x t') : DL M te ρ t P' := fun σ G H S Q q => h σ G H S Q fun G' H' l vs xs t' s n g e a p => q G' H' l vs xs t' s n g e a (i _ _ p)
theorem DT.imp {tt : TT} {P P' : Bool → Rs → Prop} (h : DT M tt ρ t P) (i : ∀ x t', P x t' → P' x t') : DT M tt ρ t P' := fun σ G H S Q q => h σ G H S Q fun G' H' b t' s p => q G' H' b t' s (i _ _ p)
/-- what an operation on values makes of two data, of one -/
def Bn {Wo : WO} (M : Md K Wo) (r : V → V → Hp → VK → Prop) (x y : PyData) (t : Rs) (P : PyData → Rs → Prop) : Prop := ∀ (G H : Hp) (v w : V), Ok M t G H → De K G v x → De K G w y → ∀ Q : VK,
  (∀ (G' H' : Hp) (u : V) (z : PyData) (t' : Rs), Stp M t' G H G' H' → De K G' u z → P z t' → Q u H') → r v w H Q
def BnL {Wo : WO} (M : Md K Wo) (r : V → V → Hp → VK → Prop) (x y : PyData) (t : Rs) (P : List PyData → Rs → Prop) : Prop := ∀ (G H : Hp) (v w : V), Ok M t G H → De K G v x → De K G w y → ∀ Q : VK,
  (∀ (G' H' : Hp) (l : Addr) (vs : List V) (xs : List PyData) (t' : Rs), Stp M t' G H G' H' → H l = none → G' l = none → H' l = some (.lst vs) → DeAll K G' vs xs → P xs t' → Q (.ref l) H') → r v w H Q
def Un1 {Wo : WO} (M : Md K Wo) (r : V → Hp → VK → Prop) (x : PyData) (t : Rs) (P : PyData → Rs → Prop) : Prop := ∀ (G H : Hp) (v : V), Ok M t G H → De K G v x → ∀ Q : VK,
  (∀ (G' H' : Hp) (u : V) (z : PyData) (t' : Rs), Stp M t' G H G' H' → De K G' u z → P z t' → Q u H') → r v H Q
/-- a call on values -/
def Cn {Wo : WO} (M : Md K Wo) (r : List V → Hp → VK → Prop) (bs : List B) (t : Rs) (P : PyData → Rs → Prop) : Prop := ∀ (G H : Hp) (vs : List V), Ok M t G H → ArgAll M G vs bs → ∀ Q : VK,
  (∀ (G' H' : Hp) (u : V) (z : PyData) (t' : Rs), Stp M t' G H G' H' → De K G' u z → P z t' → Q u H') → r vs H Q
def CnL {Wo : WO} (M : Md K Wo) (r : List V → Hp → VK → Prop) (bs : List B) (t : Rs) (P : List PyData → Rs → Prop) : Prop := ∀ (G H : Hp) (vs : List V), Ok M t G H → ArgAll M G vs bs → ∀ Q : VK,
  (∀ (G' H' : Hp) (l : Addr) (ws : List V) (xs : List PyData) (t' : Rs), Stp M t' G H G' H' → H l = none → G' l = none → H' l = some (.lst ws) → DeAll K G' ws xs → P xs t' → Q (.ref l) H') → r vs H Q
/-- a value comes, nothing changes -/
theorem keep {G H : Hp} (k : Ok M t G H) {Q : VK} (q : ∀ (G' H' : Hp) (u : V) (z : PyData) (t' : Rs), Stp M t' G H G' H' → De K G' u z → P z t' → Q u H') {u : V} {z : PyData} (d : De K G u z) (p : P z t) : Q u H := q G H u z t k.refl d p
theorem dd_op {r : R2} (h : DD M ta ρ t fun x t1 => DD M tb ρ t1 fun y t2 => Bn M r x y t2 P) : DD M (tOp r ta tb) ρ t P := fun σ G H S Q q =>
  h σ G H S _ fun G1 H1 v x t1 s1 d1 h1 => h1 σ G1 H1 (S.step s1) _ fun G2 H2 w y t2 s2 d2 b =>
    b G2 H2 v w ((S.step s1).step s2).ok (De.up s2.gg _ _ d1) d2 Q fun G3 H3 u z t3 s3 d3 p => q G3 H3 u z t3 ((s1.trans s2).trans s3) d3 p
theorem fresh_of {G H G1 H1 : Hp} {t1 : Rs} (s : Stp M t1 G H G1 H1) {l : Addr} (n : H1 l = none) : H l = none := by
  cases q : H l with
  | none => rfl
  | some o => exact absurd n (s.alive (by rw [q]; simp))
theorem dl_op {r : R2} {P : List PyData → Rs → Prop} (h : DD M ta ρ t fun x t1 => DD M tb ρ t1 fun y t2 => BnL M r x y t2 P) : DL M (tOp r ta tb) ρ t P := fun σ G H S Q q =>
  h σ G H S _ fun G1 H1 v x t1 s1 d1 h1 => h1 σ G1 H1 (S.step s1) _ fun G2 H2 w y t2 s2 d2 b =>
    b G2 H2 v w ((S.step s1).step s2).ok (De.up s2.gg _ _ d1) d2 Q fun G3 H3 l vs xs t3 s3 n g e a p => q G3 H3 l vs xs t3 ((s1.trans s2).trans s3) (fresh_of (s1.trans s2) n) g e a p
end

/-! ### expressions -/
section
variable {X : Cx} {Wo : WO} {M : Md X.K Wo} {ρ : List B} {t : Rs} {P : PyData → Rs → Prop} {a b c e : Expr} {pos : Pos}
theorem jd_of {te : TE} (h : PE X e te) (d : DD M te ρ t P) : JD M e ρ t P := fun σ G H S Q q => TeOf.of h (d σ G H S Q q)
theorem jl_of {te : TE} {P : List PyData → Rs → Prop} (h : PE X e te) (d : DL M te ρ t P) : JL M e ρ t P := fun σ G H S Q q => TeOf.of h (d σ G H S Q q)
theorem jt_of {te : TT} {P : Bool → Rs → Prop} (h : PT X e te) (d : DT M te ρ t P) : JT M e ρ t P := fun σ G H S Q q => TtOf.of h (d σ G H S Q q)
theorem jw_of {te : TT} {P : Bool → Rs → Prop} (h : PW X e te) (d : DT M te ρ t P) : JW M e ρ t P := fun σ G H S Q q => TwOf.of h (d σ G H S Q q)
theorem ja_of {te : TA} {es : List Expr} {P : List B → Rs → Prop} (h : PA X es te) (d : DA M te ρ t P) : JA M es ρ t P := fun σ G H S Q q => TaOf.of h (d σ G H S Q q)
theorem jd_name (i : Nat) {x : Str} {y : PyData} (hr : ρ[i]? = some (.d y)) (p : P y t) (hN : X.N[i]? = some x := by rfl) (hv : Vis X.env.scope x := by first | exact Or.inl rfl | exact Or.inr (Or.inl rfl) | exact Or.inr (Or.inr rfl))
    (hd : (x == ("__debug__" : Str)) = false := by decide) (hcd : (x == ("__classdict__" : Str)) = false := by decide) : JD M (.Name x pos) ρ t P := jd_of (pv i hN hv hd hcd) fun σ G H S Q q => by
  obtain ⟨v, hs, d⟩ := S.at_ i _ hr
  exact ⟨v, hs, q G H v y t S.ok.refl d p⟩
theorem jd_int {i : Int} {j : Nat} (p : P (.int i) t) : JD M (.Constant (.int i) j pos) ρ t P := jd_of pe_int fun σ G H S Q q => q G H _ _ t S.ok.refl (.int i) p
theorem jd_str {i : Str} {j : Nat} (p : P (.str i) t) : JD M (.Constant (.str i) j pos) ρ t P := jd_of pe_str fun σ G H S Q q => q G H _ _ t S.ok.refl (.str i) p
theorem jd_bl {i : Bool} {j : Nat} (p : P (.bool i) t) : JD M (.Constant (.bool i) j pos) ρ t P := jd_of pe_bl fun σ G H S Q q => q G H _ _ t S.ok.refl (.bl i) p
theorem jd_non {j : Nat} (p : P .none t) : JD M (.Constant .none j pos) ρ t P := jd_of pe_non fun σ G H S Q q => q G H _ _ t S.ok.refl .non p
theorem jd_bin {op : Operator} {r : R2} (ho : OpR X (binaryOp op) r) (h : JD M a ρ t fun x t1 => JD M b ρ t1 fun y t2 => Bn M r x y t2 P) : JD M (.BinOp a op b pos) ρ t P := jd_of (pe_op ho peT peT) (dd_op h)
theorem jl_bin {op : Operator} {r : R2} {P : List PyData → Rs → Prop} (ho : OpR X (binaryOp op) r) (h : JD M a ρ t fun x t1 => JD M b ρ t1 fun y t2 => BnL M r x y t2 P) : JL M (.BinOp a op b pos) ρ t P := jl_of (pe_op ho peT peT) (dl_op h)
theorem jd_cmp {op : CmpOp} {r : R2} (ho : OpR X (compareOp op) r) (hm : behindInMarks op b = false) (h : JD M a ρ t fun x t1 => JD M b ρ t1 fun y t2 => Bn M r x y t2 P) : JD M (.Compare a [op] [b] pos) ρ t P :=
  jd_of (pe_cmpR ho peT peT hm) (dd_op h)
theorem bn_I0 {K : PySem.W.Frag} {Wo : WO} {M : Md K Wo} {P : PyData → Rs → Prop} {g : Int → Int → Int} {i j : Int} (p : P (.int (g i j)) t) : Bn M (rI0 fun i j => .int (g i j)) (.int i) (.int j) t P := fun G H v w k hv hw Q q =>
  ⟨i, j, hv.intE, hw.intE, keep k q (.int _) p⟩
theorem bn_I {K : PySem.W.Frag} {Wo : WO} {M : Md K Wo} {P : PyData → Rs → Prop} {C : Int → Int → Prop} {g : Int → Int → Int} {i j : Int} (c : C i j) (p : P (.int (g i j)) t) : Bn M (rI C fun i j => .int (g i j)) (.int i) (.int j) t P := fun G H v w k hv hw Q q =>
  ⟨i, j, hv.intE, hw.intE, c, keep k q (.int _) p⟩
theorem bn_B0 {K : PySem.W.Frag} {Wo : WO} {M : Md K Wo} {P : PyData → Rs → Prop} {g : Int → Int → Bool} {i j : Int} (p : P (.bool (g i j)) t) : Bn M (rI0 fun i j => .bl (g i j)) (.int i) (.int j) t P := fun G H v w k hv hw Q q =>
  ⟨i, j, hv.intE, hw.intE, keep k q (.bl _) p⟩
end
end Dl
end
section
set_option maxRecDepth 100000
set_option maxHeartbeats 4000000
namespace Dl
open PySem PySem.Spec PyProof.Rows L2

theorem line_of {n : Nat} (h : n ≤ 16777216) : n ≤ sizeLine := by
  rw [sizeLine_eq]
  exact h
theorem line_lt {n : Nat} (h : n < 16777216) : n < sizeLine := by
  rw [sizeLine_eq]
  exact h
/-! ### arguments, displays -/
section
variable {K : PySem.W.Frag} {Wo : WO} {M : Md K Wo} {ρ : List B} {t : Rs} {te ta tb : TE} {tr : TA}
theorem ArgAll.length {G : Hp} : ∀ {vs : List V} {bs : List B}, ArgAll M G vs bs → vs.length = bs.length
  | _, _, .nil => rfl
  | _, _, .cons _ h => by rw [List.length_cons, List.length_cons, ArgAll.length h]
theorem da_nil {P : List B → Rs → Prop} (p : P [] t) : DA M tNil ρ t P := fun σ G H S Q q => q G H [] [] t S.ok.refl .nil p
theorem da_cons {P : List B → Rs → Prop} (h : DD M te ρ t fun x t1 => DA M tr ρ t1 fun bs t2 => P (.d x :: bs) t2) : DA M (tCons te tr) ρ t P := fun σ G H S Q q =>
  h σ G H S _ fun G1 H1 v x t1 s1 d1 h1 => h1 σ G1 H1 (S.step s1) _ fun G2 H2 vs bs t2 s2 a p => q G2 H2 (v :: vs) (.d x :: bs) t2 (s1.trans s2) (.cons (.d (De.up s2.gg _ _ d1)) a) p
end
section
variable {X : Cx} {Wo : WO} {M : Md X.K Wo} {ρ : List B} {t : Rs} {e : Expr} {es : List Expr} {pos : Pos}
theorem ja_nil {P : List B → Rs → Prop} (p : P [] t) : JA M [] ρ t P := ja_of pa_nil (da_nil p)
theorem ja_cons {P : List B → Rs → Prop} (h : JD M e ρ t fun x t1 => JA M es ρ t1 fun bs t2 => P (.d x :: bs) t2) (hs : starEach (e :: es) X.env = (false, eval e X.env) :: starEach es X.env := by rfl) : JA M (e :: es) ρ t P :=
  ja_of (pa_cons peT paT hs) (da_cons h)
/-- the reader handed on -/
theorem ja_rd (i : Nat) {x : Str} {p : Pos} {P : List B → Rs → Prop} (hr : ρ[i]? = some .rd) (h : JA M es ρ t fun bs t2 => P (.rd :: bs) t2) (hN : X.N[i]? = some x := by rfl)
    (hv : Vis X.env.scope x := by first | exact Or.inl rfl | exact Or.inr (Or.inl rfl) | exact Or.inr (Or.inr rfl)) (hd : (x == ("__debug__" : Str)) = false := by decide) (hcd : (x == ("__classdict__" : Str)) = false := by decide)
    (hs : starEach (.Name x p :: es) X.env = (false, eval (.Name x p) X.env) :: starEach es X.env := by rfl) : JA M (.Name x p :: es) ρ t P :=
  ja_of (pa_cons (pv i hN hv hd hcd) paT hs) fun σ G H S Q q => ⟨.ref M.r, S.at_ i _ hr, h σ G H S _ fun G2 H2 vs bs t2 s2 a p => q G2 H2 _ _ t2 s2 (.cons .rd a) p⟩
theorem jd_tup {j : Nat} {P : PyData → Rs → Prop} (h : JA M es ρ t fun bs t1 => ∃ ds, bs = ds.map B.d ∧ ds.length ≤ 16777216 ∧ P (.tuple ds) t1) : JD M (.Tuple es j pos) ρ t P := jd_of (pe_tup paT) fun σ G H S Q q =>
  h σ G H S _ fun G1 H1 vs bs t1 s1 a ⟨ds, e, l, p⟩ => by
    subst e
    have dl := (ArgAll.data a).length
    refine ⟨line_of (by omega), fun a1 n1 => ?_⟩
    have s2 := (S.step s1).ok.lay (o := .tup vs) n1
    exact q _ _ (.ref a1) _ t1 (s1.trans s2) (.tup (.inl (.inl upd_same)) (DeAll.up s2.gg _ _ (ArgAll.data a))) p
theorem jl_lst {P : List PyData → Rs → Prop} (h : JA M es ρ t fun bs t1 => ∃ ds, bs = ds.map B.d ∧ ds.length ≤ 16777216 ∧ P ds t1) : JL M (.List es pos) ρ t P := jl_of (pe_lst paT) fun σ G H S Q q =>
  h σ G H S _ fun G1 H1 vs bs t1 s1 a ⟨ds, e, l, p⟩ => by
    subst e
    have dl := (ArgAll.data a).length
    refine ⟨line_of (by omega), fun a1 n1 => ?_⟩
    have s2 := (S.step s1).ok.layO (o := .lst vs) n1
    refine q _ _ a1 vs ds t1 (s1.trans s2) (fresh_of s1 n1) ?_ upd_same (ArgAll.data a) p
    cases z : G1 a1 with
    | none => rfl
    | some o =>
      rw [s1.sub _ _ z] at n1
      cases n1
end

/-! ### operators by name -/
section
variable {X : Cx} {Wo : WO} {M : Md X.K Wo} {ρ : List B} {t : Rs} {P : PyData → Rs → Prop} {a b c e : Expr} {pos : Pos}
theorem jd_add (h : JD M a ρ t fun x t1 => ∃ i, x = .int i ∧ JD M b ρ t1 fun y t2 => ∃ j, y = .int j ∧ P (.int (i + j)) t2) : JD M (.BinOp a .Add b pos) ρ t P := jd_bin op_add (h.imp fun _ _ ⟨i, e, h1⟩ => h1.imp fun _ _ ⟨j, f, p⟩ => by
  subst e f
  exact bn_I0 (g := fun i j => i + j) p)
theorem jd_sub (h : JD M a ρ t fun x t1 => ∃ i, x = .int i ∧ JD M b ρ t1 fun y t2 => ∃ j, y = .int j ∧ P (.int (i - j)) t2) : JD M (.BinOp a .Sub b pos) ρ t P := jd_bin op_sub (h.imp fun _ _ ⟨i, e, h1⟩ => h1.imp fun _ _ ⟨j, f, p⟩ => by
  subst e f
  exact bn_I0 (g := fun i j => i - j) p)
theorem jd_mul (h : JD M a ρ t fun x t1 => ∃ i, x = .int i ∧ JD M b ρ t1 fun y t2 => ∃ j, y = .int j ∧ CMul i j ∧ P (.int (i * j)) t2) : JD M (.BinOp a .Mult b pos) ρ t P := jd_bin op_mul (h.imp fun _ _ ⟨i, e, h1⟩ => h1.imp fun _ _ ⟨j, f, c, p⟩ => by
  subst e f
  exact bn_I (g := fun i j => i * j) c p)
theorem jd_fdiv (h : JD M a ρ t fun x t1 => ∃ i, x = .int i ∧ JD M b ρ t1 fun y t2 => ∃ j, y = .int j ∧ CDivN i j ∧ P (.int (i.fdiv j)) t2) : JD M (.BinOp a .FloorDiv b pos) ρ t P := jd_bin op_fdivN (h.imp fun _ _ ⟨i, e, h1⟩ => h1.imp fun _ _ ⟨j, f, c, p⟩ => by
  subst e f
  exact bn_I (g := fun i j => i.fdiv j) c p)
theorem jd_mod (h : JD M a ρ t fun x t1 => ∃ i, x = .int i ∧ JD M b ρ t1 fun y t2 => ∃ j, y = .int j ∧ j ≠ 0 ∧ P (.int (i.fmod j)) t2) : JD M (.BinOp a .Mod b pos) ρ t P := jd_bin op_modN (h.imp fun _ _ ⟨i, e, h1⟩ => h1.imp fun _ _ ⟨j, f, c, p⟩ => by
  subst e f
  exact bn_I (C := fun x j => j ≠ 0) (g := fun i j => i.fmod j) c p)
theorem jd_pow (h : JD M a ρ t fun x t1 => ∃ i, x = .int i ∧ JD M b ρ t1 fun y t2 => ∃ j, y = .int j ∧ CPow i j ∧ P (.int (i ^ j.toNat)) t2) : JD M (.BinOp a .Pow b pos) ρ t P := jd_bin op_pow (h.imp fun _ _ ⟨i, e, h1⟩ => h1.imp fun _ _ ⟨j, f, c, p⟩ => by
  subst e f
  exact bn_I (g := fun i j => i ^ j.toNat) c p)
theorem jd_lt (h : JD M a ρ t fun x t1 => ∃ i, x = .int i ∧ JD M b ρ t1 fun y t2 => ∃ j, y = .int j ∧ P (.bool (decide (i < j))) t2) : JD M (.Compare a [.Lt] [b] pos) ρ t P := jd_cmp op_lt (nomark _) (h.imp fun _ _ ⟨i, e, h1⟩ => h1.imp fun _ _ ⟨j, f, p⟩ => by
  subst e f
  exact bn_B0 (g := fun i j => decide (i < j)) p)
theorem jd_le (h : JD M a ρ t fun x t1 => ∃ i, x = .int i ∧ JD M b ρ t1 fun y t2 => ∃ j, y = .int j ∧ P (.bool (decide (i ≤ j))) t2) : JD M (.Compare a [.LtE] [b] pos) ρ t P := jd_cmp op_le (nomark _) (h.imp fun _ _ ⟨i, e, h1⟩ => h1.imp fun _ _ ⟨j, f, p⟩ => by
  subst e f
  exact bn_B0 (g := fun i j => decide (i ≤ j)) p)
theorem jd_gt (h : JD M a ρ t fun x t1 => ∃ i, x = .int i ∧ JD M b ρ t1 fun y t2 => ∃ j, y = .int j ∧ P (.bool (decide (i > j))) t2) : JD M (.Compare a [.Gt] [b] pos) ρ t P := jd_cmp op_gt (nomark _) (h.imp fun _ _ ⟨i, e, h1⟩ => h1.imp fun _ _ ⟨j, f, p⟩ => by
  subst e f
  exact bn_B0 (g := fun i j => decide (i > j)) p)
theorem jd_ge (h : JD M a ρ t fun x t1 => ∃ i, x = .int i ∧ JD M b ρ t1 fun y t2 => ∃ j, y = .int j ∧ P (.bool (decide (i ≥ j))) t2) : JD M (.Compare a [.GtE] [b] pos) ρ t P := jd_cmp op_ge (nomark _) (h.imp fun _ _ ⟨i, e, h1⟩ => h1.imp fun _ _ ⟨j, f, p⟩ => by
  subst e f
  exact bn_B0 (g := fun i j => decide (i ≥ j)) p)
theorem jd_eq {k : Nat} (hr : Room k X.A) (h : JD M a ρ t fun x t1 => JD M b ρ t1 fun y t2 => SeqAt.shaped x = true ∧ SeqAt.shaped y = true ∧ P (.bool (PyData.eqv x y)) t2) : JD M (.Compare a [.Eq] [b] pos) ρ t P :=
  jd_cmp (op_eqD hr.units) (nomark _) (h.imp fun x _ h1 => h1.imp fun y _ ⟨c, d, p⟩ => fun G H v w k hv hw Q q =>
    ⟨x, y, De.dp _ _ (De.up k.sub _ _ hv), De.dp _ _ (De.up k.sub _ _ hw), c, d, keep k q (.bl _) p⟩)
theorem jd_ne {k : Nat} (hr : Room k X.A) (h : JD M a ρ t fun x t1 => JD M b ρ t1 fun y t2 => SeqAt.shaped x = true ∧ SeqAt.shaped y = true ∧ P (.bool (!PyData.eqv x y)) t2) : JD M (.Compare a [.NotEq] [b] pos) ρ t P :=
  jd_cmp (op_neD hr.units) (nomark _) (h.imp fun x _ h1 => h1.imp fun y _ ⟨c, d, p⟩ => fun G H v w k hv hw Q q =>
    ⟨x, y, De.dp _ _ (De.up k.sub _ _ hv), De.dp _ _ (De.up k.sub _ _ hw), c, d, keep k q (.bl _) p⟩)
def PyData.isN : PyData → Bool
  | .none => true
  | _ => false
theorem isN_of {K : PySem.W.Frag} {G : Hp} {v : V} {x : PyData} (h : De K G v x) : decide (v = V.non) = PyData.isN x := by
  cases h <;> simp [PyData.isN]
theorem jd_isN {j : Nat} {p1 : Pos} (h : JD M a ρ t fun x t1 => P (.bool (PyData.isN x)) t1) : JD M (.Compare a [.Is] [.Constant .none j p1] pos) ρ t P := jd_cmp op_isN (nomark _) (h.imp fun x _ p => jd_non (fun G H v w k hv hw Q q => ⟨hw.nonE, by
  rw [isN_of hv]
  exact keep k q (.bl _) p⟩))
theorem jd_notN {j : Nat} {p1 : Pos} (h : JD M a ρ t fun x t1 => P (.bool (!PyData.isN x)) t1) : JD M (.Compare a [.IsNot] [.Constant .none j p1] pos) ρ t P := jd_cmp op_notN (nomark _) (h.imp fun x _ p => jd_non (fun G H v w k hv hw Q q => ⟨hw.nonE, by
  rw [isN_of hv]
  exact keep k q (.bl _) p⟩))
theorem jd_ltS (h : JD M a ρ t fun x t1 => ∃ i, x = .str i ∧ JD M b ρ t1 fun y t2 => ∃ j, y = .str j ∧ P (.bool (decide (i.cps.toList < j.cps.toList))) t2) : JD M (.Compare a [.Lt] [b] pos) ρ t P := jd_cmp op_lt_str (nomark _) (h.imp fun _ _ ⟨i, e, h1⟩ => h1.imp fun _ _ ⟨j, f, p⟩ => by
  subst e f
  exact fun G H v w k hv hw Q q => ⟨i, j, hv.strE, hw.strE, keep k q (.bl _) p⟩)
theorem jd_catS (h : JD M a ρ t fun x t1 => ∃ i, x = .str i ∧ JD M b ρ t1 fun y t2 => ∃ j, y = .str j ∧ i.length + j.length ≤ 16777216 ∧ P (.str (i ++ j)) t2) : JD M (.BinOp a .Add b pos) ρ t P := jd_bin op_add_str (h.imp fun _ _ ⟨i, e, h1⟩ => h1.imp fun _ _ ⟨j, f, l, p⟩ => by
  subst e f
  exact fun G H v w k hv hw Q q => ⟨i, j, hv.strE, hw.strE, line_of l, keep k q (.str _) p⟩)
/-- t + u -/
theorem jd_catT (h : JD M a ρ t fun x t1 => ∃ xs, x = .tuple xs ∧ JD M b ρ t1 fun y t2 => ∃ ys, y = .tuple ys ∧ xs.length + ys.length ≤ 16777216 ∧ P (.tuple (xs ++ ys)) t2) : JD M (.BinOp a .Add b pos) ρ t P := jd_bin op_catA (h.imp fun _ _ ⟨xs, e, h1⟩ => h1.imp fun _ _ ⟨ys, f, l, p⟩ => by
  subst e f
  intro G H v w k hv hw Q q
  obtain ⟨a1, vs, rfl, st, da⟩ := hv.tupE
  obtain ⟨a2, ws, rfl, st2, da2⟩ := hw.tupE
  have up : ∀ {c : Addr} {us : List V}, SqT X.K G c us → SqT X.K H c us := fun {c us} z => by
    rcases z with (z | ⟨o, z⟩) | z
    · exact .inl (.inl (k.sub _ _ z))
    · exact .inl (.inr ⟨o, k.sub _ _ z⟩)
    · exact .inr z
  refine ⟨a1, a2, vs, ws, rfl, rfl, up st, up st2, line_of (by rw [da.length, da2.length]; exact l), fun z => ?_, fun _ z => ?_, fun _ _ a3 n3 => ?_⟩
  · have z' : xs = [] := List.eq_nil_of_length_eq_zero (by rw [← da.length, z]; rfl)
    rw [z', List.nil_append] at p
    exact keep k q hw p
  · have z' : ys = [] := List.eq_nil_of_length_eq_zero (by rw [← da2.length, z]; rfl)
    rw [z', List.append_nil] at p
    exact keep k q hv p
  · have s := k.lay (o := .tup (vs ++ ws)) n3
    exact q _ _ _ _ _ s (.tup (.inl (.inl upd_same)) (DeAll.up s.gg _ _ (da.app da2))) p)
theorem none_of {K : PySem.W.Frag} {Wo : WO} {M : Md K Wo} {t : Rs} {G H : Hp} (k : Ok M t G H) {p : Addr} (n : H p = none) : G p = none := by
  cases z : G p with
  | none => rfl
  | some o =>
    rw [k.sub _ _ z] at n
    cases n
/-- xs + ys, a new list -/
theorem jl_cat {P : List PyData → Rs → Prop} (h : JD M a ρ t fun x t1 => ∃ xs, x = .list xs ∧ JD M b ρ t1 fun y t2 => ∃ ys, y = .list ys ∧ xs.length + ys.length ≤ 16777216 ∧ P (xs ++ ys) t2) : JL M (.BinOp a .Add b pos) ρ t P := jl_bin op_cat (h.imp fun _ _ ⟨xs, e, h1⟩ => h1.imp fun _ _ ⟨ys, f, l, p⟩ => by
  subst e f
  intro G H v w k hv hw Q q
  obtain ⟨a1, vs, rfl, st, da⟩ := hv.lstE
  obtain ⟨a2, ws, rfl, st2, da2⟩ := hw.lstE
  refine ⟨a1, a2, vs, ws, rfl, rfl, k.sub _ _ st, k.sub _ _ st2, line_of (by rw [da.length, da2.length]; exact l), fun a3 n3 => ?_⟩
  exact q _ _ a3 _ _ _ (k.layO (o := .lst (vs ++ ws)) n3) n3 (none_of k n3) upd_same (da.app da2) p)
/-- x in xs, x not in xs, xs a list of data -/
theorem jd_inL {k : Nat} (hr : Room k X.A) (h : JD M a ρ t fun x t1 => JD M b ρ t1 fun y t2 => ∃ ys, y = .list ys ∧ SeqAt.shaped x = true ∧ SeqAt.shaped y = true ∧ P (.bool (ys.any fun z => PyData.eqv z x)) t2) (hm : behindInMarks .In b = false := by rfl) : JD M (.Compare a [.In] [b] pos) ρ t P :=
  jd_cmp (op_inD (by have := hr.un; omega)) hm (h.imp fun x _ h1 => h1.imp fun y _ ⟨ys, e, c, d, p⟩ => by
    subst e
    exact fun G H v w k hv hw Q q => ⟨x, ys, De.dp _ _ (De.up k.sub _ _ hv), De.dp _ _ (De.up k.sub _ _ hw), c, d, keep k q (.bl _) p⟩)
theorem jd_niL {k : Nat} (hr : Room k X.A) (h : JD M a ρ t fun x t1 => JD M b ρ t1 fun y t2 => ∃ ys, y = .list ys ∧ SeqAt.shaped x = true ∧ SeqAt.shaped y = true ∧ P (.bool (!ys.any fun z => PyData.eqv z x)) t2) (hm : behindInMarks .NotIn b = false := by rfl) : JD M (.Compare a [.NotIn] [b] pos) ρ t P :=
  jd_cmp (op_notInD (by have := hr.un; omega)) hm (h.imp fun x _ h1 => h1.imp fun y _ ⟨ys, e, c, d, p⟩ => by
    subst e
    exact fun G H v w k hv hw Q q => ⟨x, ys, De.dp _ _ (De.up k.sub _ _ hv), De.dp _ _ (De.up k.sub _ _ hw), c, d, keep k q (.bl _) p⟩)
end
section
variable {X : Cx} {pins : List (Addr × Obj)} {σ : L2.St} {H : Hp} {s : Shared}
/-- x in t, t a tuple of data of any depth -/
def rInU (K : PySem.W.Frag) (neg : Bool) : R2 := fun x y H Q => ∃ d ds, Dp K H x d ∧ Dp K H y (.tuple ds) ∧ SeqAt.shaped d = true ∧ SeqAt.shaped (.tuple ds) = true ∧ Q (.bl (if neg then !ds.any fun z => PyData.eqv z d else ds.any fun z => PyData.eqv z d)) H
end
end Dl
end
section
set_option maxRecDepth 100000
set_option maxHeartbeats 4000000
namespace Dl
open PySem PySem.Spec PyProof.Rows L2

section
variable {K : PySem.W.Frag} {Wo : WO} {M : Md K Wo} {t : Rs} {G H : Hp}
theorem sqt_up {G H : Hp} (e : Same G H) {c : Addr} {us : List V} (z : SqT K G c us) : SqT K H c us := by
  rcases z with (z | ⟨o, z⟩) | z
  · exact .inl (.inl (e _ _ z))
  · exact .inl (.inr ⟨o, e _ _ z⟩)
  · exact .inr z
theorem atI_of {α : Type} {xs : List α} {i : Int} {z : α} (h : atI xs i = some z) : ∃ j, ixN xs.length i = some j ∧ xs[j]? = some z := by
  unfold atI at h
  cases e : ixN xs.length i with
  | none => rw [e] at h; cases h
  | some j => rw [e] at h; exact ⟨j, rfl, h⟩
theorem DeAll.atI {vs : List V} {ds : List PyData} (h : DeAll K G vs ds) {i : Int} {z : PyData} (e : atI ds i = some z) : ∃ v, L2.atI vs i = some v ∧ De K G v z := by
  obtain ⟨j, e1, e2⟩ := atI_of e
  obtain ⟨v, e3, d⟩ := h.at_ e2
  refine ⟨v, ?_, d⟩
  unfold L2.atI
  rw [h.length, e1]
  exact e3
def cutD {α : Type} (xs : List α) (lo hi : Option Int) : List α := (xs.drop (HT.sIx xs.length 0 lo)).take (HT.sIx xs.length xs.length hi - HT.sIx xs.length 0 lo)
theorem DeAll.cut {vs : List V} {ds : List PyData} (h : DeAll K G vs ds) (lo hi : Option Int) : DeAll K G (cutV vs lo hi) (cutD ds lo hi) := by
  unfold cutV cutD
  rw [h.length]
  exact (h.drop _).take _
end
/-! ### optional parts of a slice -/
section
variable {K : PySem.W.Frag} {Wo : WO} (M : Md K Wo)
def DO (te : TO) (ρ : List B) (t : Rs) (P : Option Int → Rs → Prop) : Prop := ∀ (σ : L2.St) (G H : Hp), Sat M t G H σ ρ → ∀ Q : Option Int → Hp → Prop,
  (∀ (G' H' : Hp) (o : Option Int) (t' : Rs), Stp M t' G H G' H' → P o t' → Q o H') → te σ H Q
end
section
variable {X : Cx} {Wo : WO} {M : Md X.K Wo} {ρ : List B} {t : Rs} {P : PyData → Rs → Prop} {a b c e : Expr} {es : List Expr} {pos : Pos}
theorem jd_ixT (h : JD M a ρ t fun x t1 => ∃ xs, x = .tuple xs ∧ JD M b ρ t1 fun y t2 => ∃ i z, y = .int i ∧ atI xs i = some z ∧ P z t2) (hp : PlainIx b := by intro _ _; rfl) : JD M (.Subscript a b pos) ρ t P :=
  jd_of (pe_ix ix_tup peT peT hp) (dd_op (h.imp fun _ _ ⟨xs, e, h1⟩ => h1.imp fun _ _ ⟨i, z, f, g, p⟩ => by
    subst e f
    intro G H v w k hv hw Q q
    obtain ⟨a1, vs, rfl, st, da⟩ := hv.tupE
    obtain ⟨u, eu, du⟩ := da.atI g
    exact ⟨a1, vs, i, u, rfl, hw.intE, sqt_up k.sub st, eu, keep k q du p⟩))
theorem jd_ixL (h : JD M a ρ t fun x t1 => ∃ xs, x = .list xs ∧ JD M b ρ t1 fun y t2 => ∃ i z, y = .int i ∧ atI xs i = some z ∧ P z t2) (hp : PlainIx b := by intro _ _; rfl) : JD M (.Subscript a b pos) ρ t P :=
  jd_of (pe_ix ix_list peT peT hp) (dd_op (h.imp fun _ _ ⟨xs, e, h1⟩ => h1.imp fun _ _ ⟨i, z, f, g, p⟩ => by
    subst e f
    intro G H v w k hv hw Q q
    obtain ⟨a1, vs, rfl, st, da⟩ := hv.lstE
    obtain ⟨u, eu, du⟩ := da.atI g
    exact ⟨a1, vs, i, u, rfl, hw.intE, .inl (.inl (k.sub _ _ st)), eu, keep k q du p⟩))
theorem jd_ixS (h : JD M a ρ t fun x t1 => ∃ xs, x = .str xs ∧ JD M b ρ t1 fun y t2 => ∃ i z, y = .int i ∧ xs.length ≤ 16777216 ∧ atI xs.cps.toList i = some z ∧ P (.str ⟨#[z]⟩) t2) (hp : PlainIx b := by intro _ _; rfl) : JD M (.Subscript a b pos) ρ t P :=
  jd_of (pe_ix ix_str peT peT hp) (dd_op (h.imp fun _ _ ⟨xs, e, h1⟩ => h1.imp fun _ _ ⟨i, z, f, l, g, p⟩ => by
    subst e f
    intro G H v w k hv hw Q q
    exact ⟨xs, i, z, hv.strE, hw.intE, line_of l, g, keep k q (.str _) p⟩))
end
@[irreducible] def ToOf (X : Cx) (e : Option Expr) : TO := fun σ H Q => ∀ (pins : List (Addr × Obj)) (s : Shared), Inv X pins σ H s → wpAny (model X.prog X.w) X.A (evalPart e X.env) (fun u s' => ∃ o H', Inv X pins σ H' s' ∧ IsPart u o ∧ Q o H') X.xe s
theorem poT {X : Cx} {e : Option Expr} : PO X e (ToOf X e) := by unfold ToOf; exact ⟨fun pins s σ H Q I h => h pins s I⟩
theorem ToOf.of {X : Cx} {e : Option Expr} {te : TO} {σ : L2.St} {H : Hp} (h : PO X e te) {Q : Option Int → Hp → Prop} (q : te σ H Q) : ToOf X e σ H Q := by unfold ToOf; exact fun pins s I => h.run pins s σ H Q I q
section
variable {X : Cx} {Wo : WO} (M : Md X.K Wo)
abbrev JO (e : Option Expr) (ρ : List B) (t : Rs) (P : Option Int → Rs → Prop) : Prop := DO M (ToOf X e) ρ t P
end
section
variable {X : Cx} {Wo : WO} {M : Md X.K Wo} {ρ : List B} {t : Rs} {P : PyData → Rs → Prop} {a b c e : Expr} {es : List Expr} {pos p2 : Pos} {lo hi : Option Expr}
theorem jo_none {P : Option Int → Rs → Prop} (p : P none t) : JO M none ρ t P := fun σ G H S Q q => ToOf.of po_none (q G H _ t S.ok.refl p)
theorem jo_some {P : Option Int → Rs → Prop} (h : JD M e ρ t fun x t1 => ∃ i, x = .int i ∧ P (some i) t1) : JO M (some e) ρ t P := fun σ G H S Q q => ToOf.of (po_some peT) (h σ G H S _ fun G1 H1 v x t1 s1 d1 ⟨i, e, p⟩ => by
  subst e
  exact ⟨i, d1.intE, q G1 H1 _ t1 s1 p⟩)
theorem jd_slT (h : JD M a ρ t fun x t1 => ∃ xs, x = .tuple xs ∧ JO M lo ρ t1 fun l t2 => JO M hi ρ t2 fun u t3 => P (.tuple (cutD xs l u)) t3) : JD M (.Subscript a (.Slice lo hi none p2) pos) ρ t P :=
  jd_of (pe_slice sl_tupA peT poT poT) fun σ G H S Q q => h σ G H S _ fun G1 H1 v x t1 s1 d1 ⟨xs, e, h1⟩ => h1 σ G1 H1 (S.step s1) _ fun G2 H2 l t2 s2 h2 => h2 σ G2 H2 ((S.step s1).step s2) _ fun G3 H3 u t3 s3 p => by
    subst e
    have k := (((S.step s1).step s2).step s3).ok
    obtain ⟨a1, vs, rfl, st, da⟩ := (De.up (s2.trans s3).gg _ _ d1).tupE
    refine ⟨a1, vs, rfl, sqt_up k.sub st, fun w => ?_, fun w n1 hn => ?_⟩
    · refine q G3 H3 _ (.tuple (cutD xs l u)) t3 ((s1.trans s2).trans s3) ?_ p
      rw [da.length] at w
      have e1 : cutD xs l u = xs := by
        unfold cutD
        rw [w.1, w.2, List.drop_zero, Nat.sub_zero, List.take_length]
      rw [e1]
      exact .tup st da
    · have s4 := k.lay (o := .tup (cutV vs l u)) hn
      exact q _ _ _ _ t3 (((s1.trans s2).trans s3).trans s4) (.tup (.inl (.inl upd_same)) (DeAll.up s4.gg _ _ (da.cut l u))) p
theorem jl_slL {P : List PyData → Rs → Prop} (h : JD M a ρ t fun x t1 => ∃ xs, x = .list xs ∧ JO M lo ρ t1 fun l t2 => JO M hi ρ t2 fun u t3 => P (cutD xs l u) t3) : JL M (.Subscript a (.Slice lo hi none p2) pos) ρ t P :=
  jl_of (pe_slice sl_list peT poT poT) fun σ G H S Q q => h σ G H S _ fun G1 H1 v x t1 s1 d1 ⟨xs, e, h1⟩ => h1 σ G1 H1 (S.step s1) _ fun G2 H2 l t2 s2 h2 => h2 σ G2 H2 ((S.step s1).step s2) _ fun G3 H3 u t3 s3 p => by
    subst e
    have k := (((S.step s1).step s2).step s3).ok
    obtain ⟨a1, vs, rfl, st, da⟩ := (De.up (s2.trans s3).gg _ _ d1).lstE
    refine ⟨a1, vs, rfl, .inl (.inl (k.sub _ _ st)), fun n1 hn => ?_⟩
    have s4 := k.layO (o := .lst (cutV vs l u)) hn
    exact q _ _ n1 _ _ t3 (((s1.trans s2).trans s3).trans s4) (fresh_of ((s1.trans s2).trans s3) hn) (none_of k hn) upd_same (da.cut l u) p
theorem jd_slS (h : JD M a ρ t fun x t1 => ∃ z, x = .str z ∧ JO M lo ρ t1 fun l t2 => JO M hi ρ t2 fun u t3 => z.length ≤ 16777216 ∧ P (.str (cutS z l u)) t3) : JD M (.Subscript a (.Slice lo hi none p2) pos) ρ t P :=
  jd_of (pe_slice sl_str peT poT poT) fun σ G H S Q q => h σ G H S _ fun G1 H1 v x t1 s1 d1 ⟨z, e, h1⟩ => h1 σ G1 H1 (S.step s1) _ fun G2 H2 l t2 s2 h2 => h2 σ G2 H2 ((S.step s1).step s2) _ fun G3 H3 u t3 s3 ⟨g, p⟩ => by
    subst e
    exact ⟨z, d1.strE, line_of g, q G3 H3 _ _ t3 ((s1.trans s2).trans s3) (.str _) p⟩
/-- xs[::-1] of a list -/
theorem jl_rev {P : List PyData → Rs → Prop} {k : Nat} {p1 p3 p4 : Pos} (h : JD M a ρ t fun x t1 => ∃ xs, x = .list xs ∧ P xs.reverse t1) : JL M (.Subscript a (.Slice none none (some (.UnaryOp .USub (.Constant (.int 1) k p1) p3)) p4) pos) ρ t P :=
  jl_of (pe_revL peT) fun σ G H S Q q => h σ G H S _ fun G1 H1 v x t1 s1 d1 ⟨xs, e, p⟩ => by
    subst e
    have k := (S.step s1).ok
    obtain ⟨a1, vs, rfl, st, da⟩ := d1.lstE
    refine ⟨a1, vs, rfl, .inl (.inl (k.sub _ _ st)), fun n1 hn => ?_⟩
    have s4 := k.layO (o := .lst vs.reverse) hn
    exact q _ _ n1 _ _ t1 (s1.trans s4) (fresh_of s1 hn) (none_of k hn) upd_same da.rev p

/-! ### calls of built-ins -/
theorem jd_callB {x : Str} {id : String} {r : List V → Hp → VK → Prop} {p : Pos} (hc : CallR X (.builtin id) r) (hg : Gl X x) (hm : X.mg x = none) (hb : bootBuiltins x = some (.builtin id)) (h : JA M (e :: es) ρ t fun bs t1 => Cn M r bs t1 P)
    (h1 : x ≠ Str.ofString "__name__" := by decide) (h2 : (x == Str.ofString "__debug__") = false := by decide) (h3 : starEach (e :: es) X.env = (false, eval e X.env) :: starEach es X.env := by rfl)
    (h4 : ((backTo pos (starEach es X.env)).any fun x => x.fst) = false := by rfl) : JD M (.Call (.Name x p) (e :: es) [] pos) ρ t P :=
  jd_of (pe_callB hc hg hm hb paT h1 h2 h3 h4) fun σ G H S Q q => h σ G H S _ fun G1 H1 vs bs t1 s1 a1 c => c G1 H1 vs (S.step s1).ok a1 Q fun G2 H2 u z t2 s2 d2 p => q G2 H2 u z t2 (s1.trans s2) d2 p
theorem jd_callTy {x : Str} {T : String} {r : List V → Hp → VK → Prop} {p : Pos} (hc : CallR X (.type T) r) (hg : Gl X x) (hm : X.mg x = none) (hb : bootBuiltins x = some (.type T)) (h : JA M (e :: es) ρ t fun bs t1 => Cn M r bs t1 P)
    (h1 : x ≠ Str.ofString "__name__" := by decide) (h2 : (x == Str.ofString "__debug__") = false := by decide) (h3 : starEach (e :: es) X.env = (false, eval e X.env) :: starEach es X.env := by rfl)
    (h4 : ((backTo pos (starEach es X.env)).any fun x => x.fst) = false := by rfl) : JD M (.Call (.Name x p) (e :: es) [] pos) ρ t P :=
  jd_of (pe_callTy hc hg hm hb paT h1 h2 h3 h4) fun σ G H S Q q => h σ G H S _ fun G1 H1 vs bs t1 s1 a1 c => c G1 H1 vs (S.step s1).ok a1 Q fun G2 H2 u z t2 s2 d2 p => q G2 H2 u z t2 (s1.trans s2) d2 p
theorem jl_callTy {x : Str} {T : String} {r : List V → Hp → VK → Prop} {p : Pos} {P : List PyData → Rs → Prop} (hc : CallR X (.type T) r) (hg : Gl X x) (hm : X.mg x = none) (hb : bootBuiltins x = some (.type T)) (h : JA M (e :: es) ρ t fun bs t1 => CnL M r bs t1 P)
    (h1 : x ≠ Str.ofString "__name__" := by decide) (h2 : (x == Str.ofString "__debug__") = false := by decide) (h3 : starEach (e :: es) X.env = (false, eval e X.env) :: starEach es X.env := by rfl)
    (h4 : ((backTo pos (starEach es X.env)).any fun x => x.fst) = false := by rfl) : JL M (.Call (.Name x p) (e :: es) [] pos) ρ t P :=
  jl_of (pe_callTy hc hg hm hb paT h1 h2 h3 h4) fun σ G H S Q q => h σ G H S _ fun G1 H1 vs bs t1 s1 a1 c => c G1 H1 vs (S.step s1).ok a1 Q fun G2 H2 l ws xs t2 s2 n g e a p => q G2 H2 l ws xs t2 (s1.trans s2) (fresh_of s1 n) g e a p
theorem jl_callB {x : Str} {id : String} {r : List V → Hp → VK → Prop} {p : Pos} {P : List PyData → Rs → Prop} (hc : CallR X (.builtin id) r) (hg : Gl X x) (hm : X.mg x = none) (hb : bootBuiltins x = some (.builtin id)) (h : JA M (e :: es) ρ t fun bs t1 => CnL M r bs t1 P)
    (h1 : x ≠ Str.ofString "__name__" := by decide) (h2 : (x == Str.ofString "__debug__") = false := by decide) (h3 : starEach (e :: es) X.env = (false, eval e X.env) :: starEach es X.env := by rfl)
    (h4 : ((backTo pos (starEach es X.env)).any fun x => x.fst) = false := by rfl) : JL M (.Call (.Name x p) (e :: es) [] pos) ρ t P :=
  jl_of (pe_callB hc hg hm hb paT h1 h2 h3 h4) fun σ G H S Q q => h σ G H S _ fun G1 H1 vs bs t1 s1 a1 c => c G1 H1 vs (S.step s1).ok a1 Q fun G2 H2 l ws xs t2 s2 n g e a p => q G2 H2 l ws xs t2 (s1.trans s2) (fresh_of s1 n) g e a p
end
section
variable {X : Cx} {Wo : WO} {M : Md X.K Wo} {t : Rs} {P : PyData → Rs → Prop}
theorem arg1 {K : PySem.W.Frag} {Wo : WO} {M : Md K Wo} {G : Hp} {vs : List V} {x : PyData} (a : ArgAll M G vs [.d x]) : ∃ v, vs = [v] ∧ De K G v x := by
  cases a with
  | cons h r =>
    cases r
    cases h with
    | d h => exact ⟨_, rfl, h⟩
/-- how long: a text, a list, a tuple -/
def lenD : PyData → Option Nat
  | .str y => some y.length
  | .list xs => some xs.length
  | .tuple xs => some xs.length
  | _ => none
theorem cn_len {x : PyData} {n : Nat} (e : lenD x = some n) (hn : n ≤ 16777216) (p : P (.int n) t) : Cn M (fun xs H Q => ∃ x n, xs = [x] ∧ LenV X.K x H n ∧ Q (.int n) H) [.d x] t P := fun G H vs k a Q q => by
  obtain ⟨v, rfl, d⟩ := arg1 a
  refine ⟨v, n, rfl, ?_, keep k q (.int _) p⟩
  cases d with
  | str y =>
    cases e
    exact ⟨line_of hn, rfl⟩
  | lst h1 h2 =>
    cases e
    exact .inl ⟨_, .inl (.inl (k.sub _ _ h1)), h2.length.symm⟩
  | tup h1 h2 =>
    cases e
    exact .inr ⟨_, sqt_up k.sub h1, h2.length.symm⟩
  | non => cases e
  | bl => cases e
  | int => cases e
theorem cn_tuple {xs : List PyData} {x : PyData} (e : x = .list xs ∨ x = .tuple xs) (p : P (.tuple xs) t) : Cn M (fun xs H Q => ∃ p ys, xs = [.ref p] ∧ ((SqL X.K H p ys ∧ ∀ l, H l = none → Q (.ref l) (upd H l (.tup ys))) ∨ (SqT X.K H p ys ∧ Q (.ref p) H))) [.d x] t P := fun G H vs k a Q q => by
  obtain ⟨v, rfl, d⟩ := arg1 a
  rcases e with e | e
  · subst e
    obtain ⟨a1, ws, rfl, st, da⟩ := d.lstE
    refine ⟨a1, ws, rfl, .inl ⟨.inl (.inl (k.sub _ _ st)), fun l hl => ?_⟩⟩
    have s := k.lay (o := .tup ws) hl
    exact q _ _ _ _ _ s (.tup (.inl (.inl upd_same)) (DeAll.up s.gg _ _ da)) p
  · subst e
    obtain ⟨a1, ws, rfl, st, da⟩ := d.tupE
    exact ⟨a1, ws, rfl, .inr ⟨sqt_up k.sub st, keep k q d p⟩⟩
theorem cn_list {xs : List PyData} {x : PyData} {P : List PyData → Rs → Prop} (e : x = .list xs ∨ x = .tuple xs) (p : P xs t) : CnL M (fun xs H Q => ∃ p ys, xs = [.ref p] ∧ (SqL X.K H p ys ∨ SqT X.K H p ys) ∧ ∀ l, H l = none → Q (.ref l) (upd H l (.lst ys))) [.d x] t P := fun G H vs k a Q q => by
  obtain ⟨v, rfl, d⟩ := arg1 a
  rcases e with e | e
  · subst e
    obtain ⟨a1, ws, rfl, st, da⟩ := d.lstE
    exact ⟨a1, ws, rfl, .inl (.inl (.inl (k.sub _ _ st))), fun l hl => q _ _ _ _ _ _ (k.layO (o := .lst ws) hl) hl (none_of k hl) upd_same da p⟩
  · subst e
    obtain ⟨a1, ws, rfl, st, da⟩ := d.tupE
    exact ⟨a1, ws, rfl, .inr (sqt_up k.sub st), fun l hl => q _ _ _ _ _ _ (k.layO (o := .lst ws) hl) hl (none_of k hl) upd_same da p⟩
theorem cn_int {i : Int} (p : P (.int i) t) : Cn M (fun xs H Q => (∃ i, xs = [.int i] ∧ Q (.int i) H) ∨ ∃ k, xs = [.bl k] ∧ Q (.int (if k = true then 1 else 0)) H) [.d (.int i)] t P := fun G H vs k a Q q => by
  obtain ⟨v, rfl, d⟩ := arg1 a
  exact .inl ⟨i, by rw [d.intE], keep k q (.int _) p⟩
theorem cn_all {bs : List Bool} (p : P (.bool (bs.all id)) t) : Cn M (rAll X.K) [.d (.list (bs.map PyData.bool))] t P := fun G H vs k a Q q => by
  obtain ⟨v, rfl, d⟩ := arg1 a
  obtain ⟨a1, ws, rfl, st, da⟩ := d.lstE
  exact ⟨a1, bs, rfl, .inl (.inl (by rw [k.sub _ _ st, da.bls])), keep k q (.bl _) p⟩
theorem cn_any {bs : List Bool} (p : P (.bool (bs.any id)) t) : Cn M (rAny X.K) [.d (.list (bs.map PyData.bool))] t P := fun G H vs k a Q q => by
  obtain ⟨v, rfl, d⟩ := arg1 a
  obtain ⟨a1, ws, rfl, st, da⟩ := d.lstE
  exact ⟨a1, bs, rfl, .inl (.inl (by rw [k.sub _ _ st, da.bls])), keep k q (.bl _) p⟩
theorem cn_str {i : Int} (l : i.natAbs.log2 < 1920) (p : P (.str (Str.ofString (toString i))) t) : Cn M (fun xs H Q => ∃ i, xs = [.int i] ∧ i.natAbs.log2 < 1920 ∧ Q (.str (Str.ofString (toString i))) H) [.d (.int i)] t P := fun G H vs k a Q q => by
  obtain ⟨v, rfl, d⟩ := arg1 a
  exact ⟨i, by rw [d.intE], l, keep k q (.str _) p⟩
/-! isinstance -/
def tyD : PyData → String
  | .none => "NoneType"
  | .bool _ => "bool"
  | .int _ => "int"
  | .str _ => "str"
  | .list _ => "list"
  | .tuple _ => "tuple"
  | .dict _ => "dict"
theorem tyx_of {K : PySem.W.Frag} {G : Hp} {v : V} {x : PyData} (h : De K G v x) : TyX K G v (.type (tyD x)) := by
  cases h with
  | non => exact .base .non
  | bl b => exact .base (.bl b)
  | int b => exact .base (.int b)
  | str b => exact .base (.str b)
  | lst e _ => exact .base (.lst e)
  | tup e _ =>
    rcases e with (e | ⟨o, e⟩) | ⟨o, its, n, e, c, _⟩
    · exact .base (.tup e)
    · exact .fTuple e
    · exact .kTuple e c
/-- the answer of isinstance for the built-in classes that laws name -/
def isiD (T : String) (x : PyData) : Bool := tyD x == T || (T == "int" && tyD x == "bool")
theorem isi_kit {K : PySem.W.Frag} {T : String} (hT : T ∈ ["int", "bool", "str", "tuple", "list"]) (x : PyData) : PySem.W.kitOne K (.type (tyD x)) (.type T) = some (isiD T x) := by
  refine kit_ty ?_
  simp only [List.mem_cons, List.not_mem_nil, or_false] at hT
  rcases hT with rfl | rfl | rfl | rfl | rfl <;> cases x <;> (simp only [tyD, isiD]; decide +kernel)
theorem jd_isi {ρ : List B} {e : Expr} {x T : Str} {Ts : String} {pos p1 p2 : Pos} (hx : x = Str.ofString "isinstance") (hg : Gl X x) (hm : X.mg x = none) (hg2 : Gl X T) (hm2 : X.mg T = none) (hb2 : bootBuiltins T = some (.type Ts)) (hT : Ts ∈ ["int", "bool", "str", "tuple", "list"])
    (h : JD M e ρ t fun z t1 => P (.bool (isiD Ts z)) t1) (n2 : T ≠ Str.ofString "__name__" := by decide) (n3 : (T == Str.ofString "__debug__") = false := by decide)
    (h3 : starEach [e, .Name T p2] X.env = (false, eval e X.env) :: starEach [.Name T p2] X.env := by rfl)
    (h4 : ((backTo pos (starEach [.Name T p2] X.env)).any fun x => x.fst) = false := by rfl) (h5 : starEach [.Name T p2] X.env = (false, eval (.Name T p2) X.env) :: starEach [] X.env := by rfl) : JD M (.Call (.Name x p1) [e, .Name T p2] [] pos) ρ t P :=
  jd_of (pe_callB call_isi hg hm (by rw [hx]; exact boot_isinstance) (pa_cons peT (pa_cons (pe_bltn (v := .ty Ts) hg2 hm2 hb2 rfl n2 n3) pa_nil h5) h3) (by rw [hx]; decide) (by rw [hx]; decide) h3 h4) fun σ G H S Q q =>
    h σ G H S _ fun G1 H1 v z t1 s1 d1 p => ⟨v, .ty Ts, _, _, _, rfl, .ty Ts, tyx_of (De.up (S.step s1).ok.sub _ _ d1), isi_kit hT z, q G1 H1 _ _ t1 s1 (.bl _) p⟩
/-- isinstance(x, (S, T)) -/
theorem jd_isi2 {ρ : List B} {e : Expr} {x S T : Str} {Ss Ts : String} {pos p1 p2 p3 p4 : Pos} {k : Nat} (hx : x = Str.ofString "isinstance") (hg : Gl X x) (hm : X.mg x = none) (hg1 : Gl X S) (hm1 : X.mg S = none) (hb1 : bootBuiltins S = some (.type Ss)) (hS : Ss ∈ ["int", "bool", "str", "tuple", "list"])
    (hg2 : Gl X T) (hm2 : X.mg T = none) (hb2 : bootBuiltins T = some (.type Ts)) (hT : Ts ∈ ["int", "bool", "str", "tuple", "list"])
    (h : JD M e ρ t fun z t1 => P (.bool (isiD Ss z || isiD Ts z)) t1) (n1 : S ≠ Str.ofString "__name__" := by decide) (n4 : (S == Str.ofString "__debug__") = false := by decide) (n2 : T ≠ Str.ofString "__name__" := by decide) (n3 : (T == Str.ofString "__debug__") = false := by decide)
    (h3 : starEach [e, .Tuple [.Name S p2, .Name T p3] k p4] X.env = (false, eval e X.env) :: starEach [.Tuple [.Name S p2, .Name T p3] k p4] X.env := by rfl)
    (h4 : ((backTo pos (starEach [.Tuple [.Name S p2, .Name T p3] k p4] X.env)).any fun x => x.fst) = false := by rfl) (h5 : starEach [.Tuple [.Name S p2, .Name T p3] k p4] X.env = (false, eval (.Tuple [.Name S p2, .Name T p3] k p4) X.env) :: starEach [] X.env := by rfl)
    (h6 : starEach [.Name S p2, .Name T p3] X.env = (false, eval (.Name S p2) X.env) :: starEach [.Name T p3] X.env := by rfl) (h7 : starEach [.Name T p3] X.env = (false, eval (.Name T p3) X.env) :: starEach [] X.env := by rfl) :
    JD M (.Call (.Name x p1) [e, .Tuple [.Name S p2, .Name T p3] k p4] [] pos) ρ t P :=
  jd_of (pe_callB call_isiT hg hm (by rw [hx]; exact boot_isinstance) (pa_cons peT (pa_cons (pe_tup (pa_cons (pe_bltn (v := .ty Ss) hg1 hm1 hb1 rfl n1 n4) (pa_cons (pe_bltn (v := .ty Ts) hg2 hm2 hb2 rfl n2 n3) pa_nil h7) h6)) pa_nil h5) h3) (by rw [hx]; decide) (by rw [hx]; decide) h3 h4) fun σ G H S0 Q q =>
    h σ G H S0 _ fun G1 H1 v z t1 s1 d1 p => ⟨by rw [sizeLine_eq]; exact (by decide : 2 ≤ 16777216), fun tp htp => by
      have k1 := (S0.step s1).ok
      have s2 := k1.layO (o := .tup [.ty Ss, .ty Ts]) htp
      refine ⟨v, tp, [.ty Ss, .ty Ts], _, _, _, rfl, upd_same, .cons (.ty Ss) (.cons (.ty Ts) .nil), tyx_of (De.up s2.sub _ _ d1), ?_, q G1 _ _ _ t1 (s1.trans s2) (.bl (isiD Ss z || isiD Ts z)) p⟩
      unfold PySem.W.kitAny
      rw [isi_kit hS z]
      cases isiD Ss z with
      | true => rfl
      | false =>
        unfold PySem.W.kitAny
        rw [isi_kit hT z]
        cases isiD Ts z <;> rfl⟩
end
end Dl
end
section
set_option maxRecDepth 100000
set_option maxHeartbeats 4000000
namespace Dl
open PySem PySem.Spec PyProof.Rows L2

/-! ### tests and truth values -/
section
variable {X : Cx} {Wo : WO} {M : Md X.K Wo} {ρ : List B} {t : Rs} {P : PyData → Rs → Prop} {a b c e : Expr} {es rest : List Expr} {pos : Pos}
/-- an expression that gives True or False as a test -/
theorem jt_val {P : Bool → Rs → Prop} (h : JD M e ρ t fun x t1 => ∃ k, x = .bool k ∧ P k t1) (hw : ∀ (whole : Sem Value), PySem.isTrue e X.env whole = (do let v ← whole; standAt e.pos; holding [v] (truthy v)) := by intro _; rfl) : JT M e ρ t P :=
  jt_of (pt_val peT hw) fun σ G H S Q q => h σ G H S _ fun G1 H1 v x t1 s1 d1 ⟨k, e, p⟩ => by
    subst e
    exact ⟨k, d1.blE, q G1 H1 k t1 s1 p⟩
theorem jt_cmp {op : CmpOp} {r : R2} {P : Bool → Rs → Prop} (ho : OpR X (compareOp op) r) (hm : behindInMarks op b = false) (h : JD M a ρ t fun x t1 => JD M b ρ t1 fun y t2 => Bn M r x y t2 fun z t3 => ∃ k, z = .bool k ∧ P k t3) : JT M (.Compare a [op] [b] pos) ρ t P :=
  jt_of (pt_cmpR ho peT peT hm) fun σ G H S Q q => (dd_op h) σ G H S _ fun G1 H1 v x t1 s1 d1 ⟨k, e, p⟩ => by
    subst e
    exact ⟨k, d1.blE, q G1 H1 k t1 s1 p⟩
/-! comparisons as tests -/
theorem jt_lt {P : Bool → Rs → Prop} (h : JD M a ρ t fun x t1 => ∃ i, x = .int i ∧ JD M b ρ t1 fun y t2 => ∃ j, y = .int j ∧ P ((decide (i < j))) t2) : JT M (.Compare a [.Lt] [b] pos) ρ t P := jt_cmp op_lt (nomark _) (h.imp fun _ _ ⟨i, e, h1⟩ => h1.imp fun _ _ ⟨j, f, p⟩ => by
  subst e f
  exact bn_B0 (g := fun i j => decide (i < j)) ⟨_, rfl, p⟩)
theorem jt_le {P : Bool → Rs → Prop} (h : JD M a ρ t fun x t1 => ∃ i, x = .int i ∧ JD M b ρ t1 fun y t2 => ∃ j, y = .int j ∧ P ((decide (i ≤ j))) t2) : JT M (.Compare a [.LtE] [b] pos) ρ t P := jt_cmp op_le (nomark _) (h.imp fun _ _ ⟨i, e, h1⟩ => h1.imp fun _ _ ⟨j, f, p⟩ => by
  subst e f
  exact bn_B0 (g := fun i j => decide (i ≤ j)) ⟨_, rfl, p⟩)
theorem jt_gt {P : Bool → Rs → Prop} (h : JD M a ρ t fun x t1 => ∃ i, x = .int i ∧ JD M b ρ t1 fun y t2 => ∃ j, y = .int j ∧ P ((decide (i > j))) t2) : JT M (.Compare a [.Gt] [b] pos) ρ t P := jt_cmp op_gt (nomark _) (h.imp fun _ _ ⟨i, e, h1⟩ => h1.imp fun _ _ ⟨j, f, p⟩ => by
  subst e f
  exact bn_B0 (g := fun i j => decide (i > j)) ⟨_, rfl, p⟩)
theorem jt_ge {P : Bool → Rs → Prop} (h : JD M a ρ t fun x t1 => ∃ i, x = .int i ∧ JD M b ρ t1 fun y t2 => ∃ j, y = .int j ∧ P ((decide (i ≥ j))) t2) : JT M (.Compare a [.GtE] [b] pos) ρ t P := jt_cmp op_ge (nomark _) (h.imp fun _ _ ⟨i, e, h1⟩ => h1.imp fun _ _ ⟨j, f, p⟩ => by
  subst e f
  exact bn_B0 (g := fun i j => decide (i ≥ j)) ⟨_, rfl, p⟩)
theorem jt_eq {P : Bool → Rs → Prop} {k : Nat} (hr : Room k X.A) (h : JD M a ρ t fun x t1 => JD M b ρ t1 fun y t2 => SeqAt.shaped x = true ∧ SeqAt.shaped y = true ∧ P ((PyData.eqv x y)) t2) : JT M (.Compare a [.Eq] [b] pos) ρ t P :=
  jt_cmp (op_eqD hr.units) (nomark _) (h.imp fun x _ h1 => h1.imp fun y _ ⟨c, d, p⟩ => fun G H v w k hv hw Q q =>
    ⟨x, y, De.dp _ _ (De.up k.sub _ _ hv), De.dp _ _ (De.up k.sub _ _ hw), c, d, keep k q (.bl _) ⟨_, rfl, p⟩⟩)
theorem jt_ne {P : Bool → Rs → Prop} {k : Nat} (hr : Room k X.A) (h : JD M a ρ t fun x t1 => JD M b ρ t1 fun y t2 => SeqAt.shaped x = true ∧ SeqAt.shaped y = true ∧ P ((!PyData.eqv x y)) t2) : JT M (.Compare a [.NotEq] [b] pos) ρ t P :=
  jt_cmp (op_neD hr.units) (nomark _) (h.imp fun x _ h1 => h1.imp fun y _ ⟨c, d, p⟩ => fun G H v w k hv hw Q q =>
    ⟨x, y, De.dp _ _ (De.up k.sub _ _ hv), De.dp _ _ (De.up k.sub _ _ hw), c, d, keep k q (.bl _) ⟨_, rfl, p⟩⟩)
theorem jt_isN {P : Bool → Rs → Prop} {j : Nat} {p1 : Pos} (h : JD M a ρ t fun x t1 => P ((PyData.isN x)) t1) : JT M (.Compare a [.Is] [.Constant .none j p1] pos) ρ t P := jt_cmp op_isN (nomark _) (h.imp fun x _ p => jd_non (fun G H v w k hv hw Q q => ⟨hw.nonE, by
  rw [isN_of hv]
  exact keep k q (.bl _) ⟨_, rfl, p⟩⟩))
theorem jt_notN {P : Bool → Rs → Prop} {j : Nat} {p1 : Pos} (h : JD M a ρ t fun x t1 => P ((!PyData.isN x)) t1) : JT M (.Compare a [.IsNot] [.Constant .none j p1] pos) ρ t P := jt_cmp op_notN (nomark _) (h.imp fun x _ p => jd_non (fun G H v w k hv hw Q q => ⟨hw.nonE, by
  rw [isN_of hv]
  exact keep k q (.bl _) ⟨_, rfl, p⟩⟩))
theorem jt_ltS {P : Bool → Rs → Prop} (h : JD M a ρ t fun x t1 => ∃ i, x = .str i ∧ JD M b ρ t1 fun y t2 => ∃ j, y = .str j ∧ P ((decide (i.cps.toList < j.cps.toList))) t2) : JT M (.Compare a [.Lt] [b] pos) ρ t P := jt_cmp op_lt_str (nomark _) (h.imp fun _ _ ⟨i, e, h1⟩ => h1.imp fun _ _ ⟨j, f, p⟩ => by
  subst e f
  exact fun G H v w k hv hw Q q => ⟨i, j, hv.strE, hw.strE, keep k q (.bl _) ⟨_, rfl, p⟩⟩)
theorem jt_inL {P : Bool → Rs → Prop} {k : Nat} (hr : Room k X.A) (h : JD M a ρ t fun x t1 => JD M b ρ t1 fun y t2 => ∃ ys, y = .list ys ∧ SeqAt.shaped x = true ∧ SeqAt.shaped y = true ∧ P ((ys.any fun z => PyData.eqv z x)) t2) (hm : behindInMarks .In b = false := by rfl) : JT M (.Compare a [.In] [b] pos) ρ t P :=
  jt_cmp (op_inD (by have := hr.un; omega)) hm (h.imp fun x _ h1 => h1.imp fun y _ ⟨ys, e, c, d, p⟩ => by
    subst e
    exact fun G H v w k hv hw Q q => ⟨x, ys, De.dp _ _ (De.up k.sub _ _ hv), De.dp _ _ (De.up k.sub _ _ hw), c, d, keep k q (.bl _) ⟨_, rfl, p⟩⟩)
theorem jt_niL {P : Bool → Rs → Prop} {k : Nat} (hr : Room k X.A) (h : JD M a ρ t fun x t1 => JD M b ρ t1 fun y t2 => ∃ ys, y = .list ys ∧ SeqAt.shaped x = true ∧ SeqAt.shaped y = true ∧ P ((!ys.any fun z => PyData.eqv z x)) t2) (hm : behindInMarks .NotIn b = false := by rfl) : JT M (.Compare a [.NotIn] [b] pos) ρ t P :=
  jt_cmp (op_notInD (by have := hr.un; omega)) hm (h.imp fun x _ h1 => h1.imp fun y _ ⟨ys, e, c, d, p⟩ => by
    subst e
    exact fun G H v w k hv hw Q q => ⟨x, ys, De.dp _ _ (De.up k.sub _ _ hv), De.dp _ _ (De.up k.sub _ _ hw), c, d, keep k q (.bl _) ⟨_, rfl, p⟩⟩)
/-- truth of data -/
def truD : PyData → Bool
  | .none => false
  | .bool b => b
  | .int i => i != 0
  | .str y => (y.length : Int) != 0
  | .list xs => !xs.isEmpty
  | .tuple xs => !xs.isEmpty
  | .dict _ => false
theorem empty_eq {K : PySem.W.Frag} {G : Hp} {vs : List V} {ds : List PyData} (h : DeAll K G vs ds) : (!ds.isEmpty) = !vs.isEmpty := by
  cases h <;> rfl
theorem tru_of {K : PySem.W.Frag} {G H : Hp} (e : Same G H) {v : V} {x : PyData} (h : De K G v x) (hs : ∀ y, x = .str y → y.length ≤ 16777216) : TruV K v H (truD x) := by
  cases h with
  | non => rfl
  | bl b => rfl
  | int i => rfl
  | str y => exact ⟨line_of (hs y rfl), rfl⟩
  | lst g d => exact .inl ⟨_, .inl (.inl (e _ _ g)), empty_eq d⟩
  | tup g d => exact .inr (.inl ⟨_, sqt_up e g, empty_eq d⟩)
theorem jt_tru {P : Bool → Rs → Prop} (h : JD M e ρ t fun x t1 => (∀ y, x = .str y → y.length ≤ 16777216) ∧ P (truD x) t1) (hw : ∀ (whole : Sem Value), PySem.isTrue e X.env whole = (do let v ← whole; standAt e.pos; holding [v] (truthy v)) := by intro _; rfl) : JT M e ρ t P :=
  jt_of (pt_truth peT hw) fun σ G H S Q q => h σ G H S _ fun G1 H1 v x t1 s1 d1 ⟨hy, p⟩ => ⟨truD x, tru_of (S.step s1).ok.sub d1 hy, q G1 H1 _ t1 s1 p⟩
theorem jt_not {P : Bool → Rs → Prop} (h : JT M e ρ t fun k t1 => P (!k) t1) : JT M (.UnaryOp .Not e pos) ρ t P := jt_of (pt_not ptT) fun σ G H S Q q => h σ G H S _ fun G1 H1 k t1 s1 p => q G1 H1 _ t1 s1 p
theorem jt_w {P : Bool → Rs → Prop} (h : JW M e ρ t P) : JT M e ρ t P := jt_of (PW.pt pwT) h
theorem jw_and {P : Bool → Rs → Prop} (h : JT M a ρ t fun k t1 => (k = true → JW M (.BoolOp .And (b :: rest) pos) ρ t1 P) ∧ (k = false → P false t1)) : JW M (.BoolOp .And (a :: b :: rest) pos) ρ t P := jw_of (pw_and ptT pwT) fun σ G H S Q q =>
  h σ G H S _ fun G1 H1 k t1 s1 ⟨h1, h2⟩ => by
    cases k with
    | true => exact iteT (h1 rfl σ G1 H1 (S.step s1) _ fun G2 H2 k2 t2 s2 p => q G2 H2 k2 t2 (s1.trans s2) p)
    | false => exact iteF (q G1 H1 false t1 s1 (h2 rfl))
theorem jw_and1 {P : Bool → Rs → Prop} (h : JT M a ρ t P) : JW M (.BoolOp .And [a] pos) ρ t P := jw_of (pw_and1 ptT) h
theorem jw_or {P : Bool → Rs → Prop} (h : JT M a ρ t fun k t1 => (k = false → JW M (.BoolOp .Or (b :: rest) pos) ρ t1 P) ∧ (k = true → P true t1)) : JW M (.BoolOp .Or (a :: b :: rest) pos) ρ t P := jw_of (pw_or ptT pwT) fun σ G H S Q q =>
  h σ G H S _ fun G1 H1 k t1 s1 ⟨h1, h2⟩ => by
    cases k with
    | false => exact iteF (h1 rfl σ G1 H1 (S.step s1) _ fun G2 H2 k2 t2 s2 p => q G2 H2 k2 t2 (s1.trans s2) p)
    | true => exact iteT (q G1 H1 true t1 s1 (h2 rfl))
theorem jw_or1 {P : Bool → Rs → Prop} (h : JT M a ρ t P) : JW M (.BoolOp .Or [a] pos) ρ t P := jw_of (pw_or1 ptT) h
/-- a and b as a value, a True or False -/
theorem jd_and (h : JD M a ρ t fun x t1 => ∃ k, x = .bool k ∧ (k = true → JD M (.BoolOp .And (b :: rest) pos) ρ t1 P) ∧ (k = false → P (.bool false) t1)) : JD M (.BoolOp .And (a :: b :: rest) pos) ρ t P := jd_of (pe_and peT peT) fun σ G H S Q q =>
  h σ G H S _ fun G1 H1 v x t1 s1 d1 ⟨k, e, h1, h2⟩ => by
    subst e
    refine ⟨k, d1.blE, ?_⟩
    cases k with
    | true => exact iteT (h1 rfl σ G1 H1 (S.step s1) _ fun G2 H2 u z t2 s2 d2 p => q G2 H2 u z t2 (s1.trans s2) d2 p)
    | false => exact iteF (q G1 H1 _ _ t1 s1 (.bl false) (h2 rfl))
theorem jd_or (h : JD M a ρ t fun x t1 => ∃ k, x = .bool k ∧ (k = false → JD M (.BoolOp .Or (b :: rest) pos) ρ t1 P) ∧ (k = true → P (.bool true) t1)) : JD M (.BoolOp .Or (a :: b :: rest) pos) ρ t P := jd_of (pe_or peT peT) fun σ G H S Q q =>
  h σ G H S _ fun G1 H1 v x t1 s1 d1 ⟨k, e, h1, h2⟩ => by
    subst e
    refine ⟨k, d1.blE, ?_⟩
    cases k with
    | false => exact iteF (h1 rfl σ G1 H1 (S.step s1) _ fun G2 H2 u z t2 s2 d2 p => q G2 H2 u z t2 (s1.trans s2) d2 p)
    | true => exact iteT (q G1 H1 _ _ t1 s1 (.bl true) (h2 rfl))
theorem jd_one {op : BoolOp} (h : JD M a ρ t P) : JD M (.BoolOp op [a] pos) ρ t P := jd_of (pe_one peT) h
theorem jd_not (h : JD M a ρ t fun x t1 => ∃ k, x = .bool k ∧ P (.bool (!k)) t1) : JD M (.UnaryOp .Not a pos) ρ t P := jd_of (pe_not peT) fun σ G H S Q q =>
  h σ G H S _ fun G1 H1 v x t1 s1 d1 ⟨k, e, p⟩ => by
    subst e
    exact ⟨k, d1.blE, q G1 H1 _ _ t1 s1 (.bl _) p⟩
theorem jd_if (h : JT M c ρ t fun k t1 => (k = true → JD M a ρ t1 P) ∧ (k = false → JD M b ρ t1 P)) : JD M (.IfExp c a b pos) ρ t P := jd_of (pe_ifExp ptT peT peT) fun σ G H S Q q =>
  h σ G H S _ fun G1 H1 k t1 s1 ⟨h1, h2⟩ => by
    cases k with
    | true => exact iteT (h1 rfl σ G1 H1 (S.step s1) _ fun G2 H2 u z t2 s2 d2 p => q G2 H2 u z t2 (s1.trans s2) d2 p)
    | false => exact iteF (h2 rfl σ G1 H1 (S.step s1) _ fun G2 H2 u z t2 s2 d2 p => q G2 H2 u z t2 (s1.trans s2) d2 p)
theorem jd_neg (h : JD M a ρ t fun x t1 => ∃ i, x = .int i ∧ P (.int (-i)) t1) : JD M (.UnaryOp .USub a pos) ρ t P := jd_of (pe_un un_neg peT) fun σ G H S Q q =>
  h σ G H S _ fun G1 H1 v x t1 s1 d1 ⟨k, e, p⟩ => by
    subst e
    exact ⟨k, d1.intE, q G1 H1 _ _ t1 s1 (.int _) p⟩
/-- a <= b <= c over ints -/
theorem jd_chain {op op' : CmpOp} {g g' : Int → Int → Bool} (ho : OpR X (compareOp op) (rI0 fun i j => .bl (g i j))) (ho' : OpR X (compareOp op') (rI0 fun i j => .bl (g' i j)))
    (h : JD M a ρ t fun x t1 => ∃ i, x = .int i ∧ JD M b ρ t1 fun y t2 => ∃ j, y = .int j ∧ (g i j = false → P (.bool false) t2) ∧ (g i j = true → JD M c ρ t2 fun z t3 => ∃ k, z = .int k ∧ P (.bool (g' j k)) t3)) (hm : lastMarks [op, op'] [b, c] = false := by rfl) : JD M (.Compare a [op, op'] [b, c] pos) ρ t P :=
  jd_of (pe_chain ho ho' peT peT peT hm) fun σ G H S Q q => h σ G H S _ fun G1 H1 v x t1 s1 d1 ⟨i, e1, h1⟩ => h1 σ G1 H1 (S.step s1) _ fun G2 H2 w y t2 s2 d2 ⟨j, e2, hf, ht⟩ => by
    subst e1 e2
    refine ⟨i, j, d1.intE, d2.intE, g i j, rfl, ?_⟩
    cases hg : g i j with
    | true =>
      refine iteT (ht hg σ G2 H2 ((S.step s1).step s2) _ fun G3 H3 u z t3 s3 d3 ⟨k, e3, p⟩ => ?_)
      subst e3
      exact ⟨j, k, d2.intE, d3.intE, q G3 H3 _ _ t3 ((s1.trans s2).trans s3) (.bl _) p⟩
    | false => exact iteF (q G2 H2 _ _ t2 (s1.trans s2) (.bl _) (hf hg))
theorem jt_chain {P : Bool → Rs → Prop} {op op' : CmpOp} {g g' : Int → Int → Bool} (ho : OpR X (compareOp op) (rI0 fun i j => .bl (g i j))) (ho' : OpR X (compareOp op') (rI0 fun i j => .bl (g' i j)))
    (h : JD M a ρ t fun x t1 => ∃ i, x = .int i ∧ JD M b ρ t1 fun y t2 => ∃ j, y = .int j ∧ (g i j = false → P false t2) ∧ (g i j = true → JD M c ρ t2 fun z t3 => ∃ k, z = .int k ∧ P (g' j k) t3)) (hm : lastMarks [op, op'] [b, c] = false := by rfl) : JT M (.Compare a [op, op'] [b, c] pos) ρ t P :=
  jt_of (pt_chain ho ho' peT peT peT hm) fun σ G H S Q q => h σ G H S _ fun G1 H1 v x t1 s1 d1 ⟨i, e1, h1⟩ => h1 σ G1 H1 (S.step s1) _ fun G2 H2 w y t2 s2 d2 ⟨j, e2, hf, ht⟩ => by
    subst e1 e2
    refine ⟨i, j, d1.intE, d2.intE, g i j, rfl, ?_⟩
    cases hg : g i j with
    | true =>
      refine iteT (ht hg σ G2 H2 ((S.step s1).step s2) _ fun G3 H3 u z t3 s3 d3 ⟨k, e3, p⟩ => ?_)
      subst e3
      exact ⟨j, k, d2.intE, d3.intE, _, rfl, q G3 H3 _ t3 ((s1.trans s2).trans s3) p⟩
    | false => exact iteF ⟨_, rfl, q G2 H2 _ t2 (s1.trans s2) (hf hg)⟩
/-- over texts -/
theorem jd_chainS {op op' : CmpOp} {g g' : Str → Str → Bool} {r r' : R2} (ho : OpR X (compareOp op) r) (ho' : OpR X (compareOp op') r') (hr : ∀ i j H (Q : VK), Q (.bl (g i j)) H → r (.str i) (.str j) H Q) (hr' : ∀ i j H (Q : VK), Q (.bl (g' i j)) H → r' (.str i) (.str j) H Q)
    (h : JD M a ρ t fun x t1 => ∃ i, x = .str i ∧ JD M b ρ t1 fun y t2 => ∃ j, y = .str j ∧ (g i j = false → P (.bool false) t2) ∧ (g i j = true → JD M c ρ t2 fun z t3 => ∃ k, z = .str k ∧ P (.bool (g' j k)) t3))
    (hm : lastMarks [op, op'] [b, c] = false := by rfl) : JD M (.Compare a [op, op'] [b, c] pos) ρ t P :=
  jd_of (pe_chain ho ho' peT peT peT hm) fun σ G H S Q q => h σ G H S _ fun G1 H1 v x t1 s1 d1 ⟨i, e1, h1⟩ => h1 σ G1 H1 (S.step s1) _ fun G2 H2 w y t2 s2 d2 ⟨j, e2, hf, ht⟩ => by
    subst e1 e2
    rw [d1.strE, d2.strE]
    refine hr i j _ _ ⟨g i j, rfl, ?_⟩
    cases hg : g i j with
    | true =>
      refine iteT (ht hg σ G2 H2 ((S.step s1).step s2) _ fun G3 H3 u z t3 s3 d3 ⟨k, e3, p⟩ => ?_)
      subst e3
      rw [d3.strE]
      exact hr' j k _ _ (q G3 H3 _ _ t3 ((s1.trans s2).trans s3) (.bl _) p)
    | false => exact iteF (q G2 H2 _ _ t2 (s1.trans s2) (.bl _) (hf hg))
end

/-! ### defs -/
/-- what a def promises: of n arguments -/
def spD (K : PySem.W.Frag) (Wo : WO) (n : Nat) (S : List B → Rs → (B → Rs → Prop) → Prop) : Sp := fun vs H Q _ => ∃ (M : Md K Wo) (G : Hp) (bs : List B) (t : Rs) (P : B → Rs → Prop), Ok M t G H ∧ ArgAll M G vs bs ∧ bs.length = n ∧ S bs t P ∧
  (∀ (G' H' : Hp) (v : V) (x : PyData) (t' : Rs), Stp M t' G H G' H' → De K G' v x → P (.d x) t' → Q v H') ∧
  (∀ (G' H' : Hp) (l : Addr) (ws : List V) (xs : List PyData) (t' : Rs), Stp M t' G H G' H' → H l = none → G' l = none → H' l = some (.lst ws) → DeAll K G' ws xs → P (.own xs) t' → Q (.ref l) H')
/-- the def that stands at the name x, its promise, by at most level k -/
structure Def (P : Program) (w : World) (K : PySem.W.Frag) (Wo : WO) (mg : Str → Option Value) (base : Heap) (k : Nat) (x : Str) (n : Nat) (S : List B → Rs → (B → Rs → Prop) → Prop) : Prop where
  ex : ∃ (f : Addr) (fd : FuncData) (ps : List Str), FnOk P w K mg base CX0 k f fd ps (spD K Wo n S) ∧ mg x = some (.ref f) ∧ PySem.W.keepIn K (.ref f) = true ∧ Binds K fd ps []
section
variable {X : Cx} {Wo : WO} {M : Md X.K Wo} {ρ : List B} {t : Rs} {e : Expr} {es : List Expr} {p pos : Pos} {x : Str} {k j n : Nat} {S : List B → Rs → (B → Rs → Prop) → Prop}
theorem jd_call {P : PyData → Rs → Prop} (D : Def X.prog X.w X.K Wo X.mg X.base k x n S) (hr : Room j X.A) (hk : k ≤ j) (hg : Gl X x) (h : JA M (e :: es) ρ t fun bs t1 => bs.length = n ∧ S bs t1 fun b t2 => ∃ y, b = .d y ∧ P y t2)
    (h2 : (x == ("__debug__" : Str)) = false := by decide) (h3 : starEach (e :: es) X.env = (false, eval e X.env) :: starEach es X.env := by rfl)
    (h4 : (backTo pos (starEach es X.env)).any (·.1) = false := by rfl) : JD M (.Call (.Name x p) (e :: es) [] pos) ρ t P := by
  obtain ⟨f, fd, ps, F, hm, kp, hb⟩ := D.ex
  refine jd_of (pe_call F (hr.mono hk) hg hm kp hb .nil pass0 paT h2 h3 h4) fun σ G H S Q q => h σ G H S _ fun G1 H1 vs bs t1 s1 a1 ⟨hl, sp⟩ => ?_
  show spD X.K Wo n _ (vs ++ []) H1 Q E0
  rw [List.append_nil]
  refine ⟨M, G1, bs, t1, _, (S.step s1).ok, a1, hl, sp, fun G2 H2 v z t2 s2 d2 ⟨y, ey, py⟩ => ?_, fun G2 H2 l ws xs t2 s2 n g e a ⟨y, ey, py⟩ => (by cases ey)⟩
  cases ey
  exact q G2 H2 v z t2 (s1.trans s2) d2 py
theorem jl_call {P : List PyData → Rs → Prop} (D : Def X.prog X.w X.K Wo X.mg X.base k x n S) (hr : Room j X.A) (hk : k ≤ j) (hg : Gl X x) (h : JA M (e :: es) ρ t fun bs t1 => bs.length = n ∧ S bs t1 fun b t2 => ∃ y, b = .own y ∧ P y t2)
    (h2 : (x == ("__debug__" : Str)) = false := by decide) (h3 : starEach (e :: es) X.env = (false, eval e X.env) :: starEach es X.env := by rfl)
    (h4 : (backTo pos (starEach es X.env)).any (·.1) = false := by rfl) : JL M (.Call (.Name x p) (e :: es) [] pos) ρ t P := by
  obtain ⟨f, fd, ps, F, hm, kp, hb⟩ := D.ex
  refine jl_of (pe_call F (hr.mono hk) hg hm kp hb .nil pass0 paT h2 h3 h4) fun σ G H S Q q => h σ G H S _ fun G1 H1 vs bs t1 s1 a1 ⟨hl, sp⟩ => ?_
  show spD X.K Wo n _ (vs ++ []) H1 Q E0
  rw [List.append_nil]
  refine ⟨M, G1, bs, t1, _, (S.step s1).ok, a1, hl, sp, fun G2 H2 v z t2 s2 d2 ⟨y, ey, py⟩ => (by cases ey), fun G2 H2 l ws xs t2 s2 n g e a ⟨y, ey, py⟩ => ?_⟩
  cases ey
  exact q G2 H2 l ws _ t2 (s1.trans s2) (fresh_of s1 n) g e a py
/-- a def without arguments -/
theorem jl_call0 {P : List PyData → Rs → Prop} (D : Def X.prog X.w X.K Wo X.mg X.base k x 0 S) (hr : Room j X.A) (hk : k ≤ j) (hg : Gl X x) (h : S [] t fun b t2 => ∃ y, b = .own y ∧ P y t2)
    (h2 : (x == ("__debug__" : Str)) = false := by decide) : JL M (.Call (.Name x p) [] [] pos) ρ t P := by
  obtain ⟨f, fd, ps, F, hm, kp, hb⟩ := D.ex
  refine jl_of (pe_call0 F (hr.mono hk) hg hm kp hb .nil pass0 h2) fun σ G H S Q q => ?_
  show spD X.K Wo 0 _ ([] ++ []) H Q E0
  refine ⟨M, G, [], t, _, S.ok, .nil, rfl, h, fun G2 H2 v z t2 s2 d2 ⟨y, ey, py⟩ => (by cases ey), fun G2 H2 l ws xs t2 s2 n g e a ⟨y, ey, py⟩ => ?_⟩
  cases ey
  exact q G2 H2 l ws _ t2 s2 n g e a py
end
end Dl
end
section
set_option maxRecDepth 100000
set_option maxHeartbeats 4000000
namespace Dl
open PySem PySem.Spec PyProof.Rows L2

/-! ### statements -/
structure Dk where
  nx : List B → Rs → Prop
  rt : B → Rs → Prop
  bk : List B → Rs → Prop := fun _ _ => False
  ct : List B → Rs → Prop := fun _ _ => False
section
variable {K : PySem.W.Frag}
structure Fit {Wo : WO} (M : Md K Wo) (G1 : Hp) (D : Dk) (E : Ends) : Prop where
  nx : ∀ (σ : L2.St) (G H : Hp) (ρ : List B) (t : Rs), Sat M t G H σ ρ → Same G1 G → D.nx ρ t → E.nx σ H
  bk : ∀ (σ : L2.St) (G H : Hp) (ρ : List B) (t : Rs), Sat M t G H σ ρ → Same G1 G → D.bk ρ t → E.bk σ H
  ct : ∀ (σ : L2.St) (G H : Hp) (ρ : List B) (t : Rs), Sat M t G H σ ρ → Same G1 G → D.ct ρ t → E.ct σ H
  rt : ∀ (G H : Hp) (t : Rs) (v : V) (x : PyData), Stp M t M.G0 M.H0 G H → De K G v x → D.rt (.d x) t → E.rt v H
  rtL : ∀ (G H : Hp) (t : Rs) (l : Addr) (ws : List V) (xs : List PyData), Stp M t M.G0 M.H0 G H → M.H0 l = none → G l = none → H l = some (.lst ws) → DeAll K G ws xs → D.rt (.own xs) t → E.rt (.ref l) H
def DS {Wo : WO} (M : Md K Wo) (ts : TS) (ρ : List B) (t : Rs) (D : Dk) : Prop := ∀ (σ : L2.St) (G H : Hp), Sat M t G H σ ρ → ∀ E : Ends, Fit M G D E → ts E σ H
theorem Fit.mono {Wo : WO} {M : Md K Wo} {G G' : Hp} {D : Dk} {E : Ends} (F : Fit M G D E) (e : Same G G') : Fit M G' D E :=
  ⟨fun σ G2 H ρ t S s d => F.nx σ G2 H ρ t S (e.trans s) d, fun σ G2 H ρ t S s d => F.bk σ G2 H ρ t S (e.trans s) d, fun σ G2 H ρ t S s d => F.ct σ G2 H ρ t S (e.trans s) d, F.rt, F.rtL⟩
/-- a target takes data -/
def DG {Wo : WO} (M : Md K Wo) (g : TG) (x : PyData) (ρ : List B) (Q : List B → Prop) : Prop := ∀ (t : Rs) (G H : Hp) (σ : L2.St) (v : V), Sat M t G H σ ρ → De K G v x → ∀ R : L2.St → Hp → Prop, (∀ (σ' : L2.St) (ρ' : List B), Sat M t G H σ' ρ' → Q ρ' → R σ' H) → g v σ H R
end
section
variable {X : Cx} {Wo : WO} (M : Md X.K Wo)
abbrev JS (st : Stmt) (ρ : List B) (t : Rs) (D : Dk) : Prop := DS M (TsOf X st) ρ t D
abbrev JSs (st : List Stmt) (ρ : List B) (t : Rs) (D : Dk) : Prop := DS M (TssOf X st) ρ t D
end
section
variable {K : PySem.W.Frag} {Wo : WO} {M : Md K Wo} {t : Rs} {G H : Hp} {σ : L2.St} {ρ : List B}
theorem Sat.set {i : Nat} {v : V} {x : PyData} (S : Sat M t G H σ ρ) (d : De K G v x) : Sat M t G H (σ.set i (some v)) (ρ.set i (.d x)) where
  st := S.st
  ok := S.ok
  len := by rw [List.length_set, List.length_set, S.len]
  at_ := fun j b e => by
    by_cases hj : i = j
    · subst hj
      by_cases hl : i < ρ.length
      · rw [List.getElem?_set_self hl] at e
        cases e
        exact ⟨v, List.getElem?_set_self (by rw [S.len]; exact hl), d⟩
      · rw [List.getElem?_eq_none (by rw [List.length_set]; omega)] at e
        cases e
    · rw [List.getElem?_set_ne hj] at e ⊢
      exact S.at_ j b e
  dis := fun a b xs ys l n e1 e2 e3 e4 => by
    by_cases ha : i = a
    · subst ha
      by_cases hl : i < ρ.length
      · rw [List.getElem?_set_self hl] at e1
        cases e1
      · rw [List.getElem?_eq_none (by rw [List.length_set]; omega)] at e1
        cases e1
    · by_cases hb : i = b
      · subst hb
        by_cases hl : i < ρ.length
        · rw [List.getElem?_set_self hl] at e2
          cases e2
        · rw [List.getElem?_eq_none (by rw [List.length_set]; omega)] at e2
          cases e2
      · rw [List.getElem?_set_ne ha] at e1 e3
        rw [List.getElem?_set_ne hb] at e2 e4
        exact S.dis a b xs ys l n e1 e2 e3 e4
/-- a slot gets a new list of its own -/
theorem Sat.setL {i : Nat} {l : Addr} {ws : List V} {xs : List PyData} (S : Sat M t G H σ ρ) (n : l ≠ M.r) (g : G l = none) (h : H l = some (.lst ws)) (h0 : M.H0 l = none) (d : DeAll K G ws xs) (fresh : ∀ (j : Nat) (ys : List PyData), j ≠ i → ρ[j]? = some (.own ys) → σ[j]? ≠ some (some (.ref l))) :
    Sat M t G H (σ.set i (some (.ref l))) (ρ.set i (.own xs)) where
  st := S.st
  ok := S.ok
  len := by rw [List.length_set, List.length_set, S.len]
  at_ := fun j b e => by
    by_cases hj : i = j
    · subst hj
      by_cases hl : i < ρ.length
      · rw [List.getElem?_set_self hl] at e
        cases e
        exact ⟨l, ws, List.getElem?_set_self (by rw [S.len]; exact hl), n, g, h, h0, d⟩
      · rw [List.getElem?_eq_none (by rw [List.length_set]; omega)] at e
        cases e
    · rw [List.getElem?_set_ne hj] at e ⊢
      exact S.at_ j b e
  dis := fun a b ys zs k ne e1 e2 e3 e4 => by
    by_cases ha : i = a
    · subst ha
      rw [List.getElem?_set_ne ne] at e2 e4
      have hl : i < σ.length := by
        by_cases q : i < σ.length
        · exact q
        · rw [List.getElem?_eq_none (by rw [List.length_set]; omega)] at e3
          cases e3
      rw [List.getElem?_set_self hl] at e3
      cases e3
      exact fresh b zs (Ne.symm ne) e2 e4
    · rw [List.getElem?_set_ne ha] at e1 e3
      by_cases hb : i = b
      · subst hb
        have hl : i < σ.length := by
          by_cases q : i < σ.length
          · exact q
          · rw [List.getElem?_eq_none (by rw [List.length_set]; omega)] at e4
            cases e4
        rw [List.getElem?_set_self hl] at e4
        cases e4
        exact fresh a ys (fun z => ha z.symm) e1 e3
      · rw [List.getElem?_set_ne hb] at e2 e4
        exact S.dis a b ys zs k ne e1 e2 e3 e4
/-- a list that nobody held ahead -/
theorem Sat.fresh {l : Addr} (S : Sat M t G H σ ρ) (n : H l = none) {j : Nat} {ys : List PyData} (e : ρ[j]? = some (.own ys)) : σ[j]? ≠ some (some (.ref l)) := fun z => by
  obtain ⟨l', vs, e1, _, _, h, _⟩ := S.at_ j _ e
  rw [z] at e1
  cases e1
  rw [n] at h
  cases h
/-- less is known -/
theorem Sat.un {i : Nat} (S : Sat M t G H σ ρ) {u : Option V} : Sat M t G H (σ.set i u) (ρ.set i .un) where
  st := S.st
  ok := S.ok
  len := by rw [List.length_set, List.length_set, S.len]
  at_ := fun j b e => by
    by_cases hj : i = j
    · subst hj
      by_cases hl : i < ρ.length
      · rw [List.getElem?_set_self hl] at e
        cases e
        trivial
      · rw [List.getElem?_eq_none (by rw [List.length_set]; omega)] at e
        cases e
    · rw [List.getElem?_set_ne hj] at e ⊢
      exact S.at_ j b e
  dis := fun a b xs ys l n e1 e2 e3 e4 => by
    by_cases ha : i = a
    · subst ha
      by_cases hl : i < ρ.length
      · rw [List.getElem?_set_self hl] at e1
        cases e1
      · rw [List.getElem?_eq_none (by rw [List.length_set]; omega)] at e1
        cases e1
    · by_cases hb : i = b
      · subst hb
        by_cases hl : i < ρ.length
        · rw [List.getElem?_set_self hl] at e2
          cases e2
        · rw [List.getElem?_eq_none (by rw [List.length_set]; omega)] at e2
          cases e2
      · rw [List.getElem?_set_ne ha] at e1 e3
        rw [List.getElem?_set_ne hb] at e2 e4
        exact S.dis a b xs ys l n e1 e2 e3 e4
/-- the list of a slot becomes data -/
theorem Sat.freeze {i : Nat} {xs : List PyData} (S : Sat M t G H σ ρ) (e : ρ[i]? = some (.own xs)) : ∃ (l : Addr) (ws : List V), σ[i]? = some (some (.ref l)) ∧ H l = some (.lst ws) ∧ Same G (upd G l (.lst ws)) ∧ De K (upd G l (.lst ws)) (.ref l) (.list xs) ∧ Sat M t (upd G l (.lst ws)) H σ (ρ.set i (.d (.list xs))) := by
  obtain ⟨l, ws, e1, n, g, h, h0, d⟩ := S.at_ i _ e
  have up : Same G (upd G l (.lst ws)) := fun b u z => by
    rw [upd_ne (ne_of_none z g)]
    exact z
  have de : De K (upd G l (.lst ws)) (.ref l) (.list xs) := .lst upd_same (DeAll.up up _ _ d)
  refine ⟨l, ws, e1, h, up, de, ?_⟩
  refine ⟨S.st.freeze h0 g h, ⟨fun b u z => ?_, ?_, ?_⟩, by rw [List.length_set]; exact S.len, fun j b e2 => ?_, fun a b ys zs k ne e2 e3 e4 e5 => ?_⟩
  · by_cases hb : b = l
    · subst hb
      rw [upd_same] at z
      rw [h]
      exact z
    · rw [upd_ne hb] at z
      exact S.ok.sub b u z
  · rw [upd_ne (Ne.symm n)]
    exact S.ok.gr
  · obtain ⟨o, q, w⟩ := S.ok.rd
    exact ⟨o, q, M.up up w⟩
  · by_cases hj : i = j
    · subst hj
      rw [List.getElem?_set_self (by
        by_cases q : i < ρ.length
        · exact q
        · rw [List.getElem?_eq_none (by omega)] at e
          cases e)] at e2
      cases e2
      exact ⟨.ref l, e1, de⟩
    · rw [List.getElem?_set_ne hj] at e2
      have s := S.at_ j b e2
      cases b with
      | un => trivial
      | rd => exact s
      | d x =>
        obtain ⟨v, e3, h3⟩ := s
        exact ⟨v, e3, De.up up x v h3⟩
      | own ys =>
        obtain ⟨l2, vs, e3, n2, g2, h2, h02, d2⟩ := s
        refine ⟨l2, vs, e3, n2, ?_, h2, h02, DeAll.up up _ _ d2⟩
        have : l2 ≠ l := fun z => by
          subst z
          exact S.dis i j xs ys l2 hj e e2 e1 e3
        rw [upd_ne this]
        exact g2
  · by_cases ha : i = a
    · subst ha
      rw [List.getElem?_set_self (by
        by_cases q : i < ρ.length
        · exact q
        · rw [List.getElem?_eq_none (by omega)] at e
          cases e)] at e2
      cases e2
    · by_cases hb : i = b
      · subst hb
        rw [List.getElem?_set_self (by
          by_cases q : i < ρ.length
          · exact q
          · rw [List.getElem?_eq_none (by omega)] at e
            cases e)] at e3
        cases e3
      · rw [List.getElem?_set_ne ha] at e2
        rw [List.getElem?_set_ne hb] at e3
        exact S.dis a b ys zs k ne e2 e3 e4 e5
/-- the list of a slot is changed in place -/
theorem Sat.write {i : Nat} {xs ys : List PyData} {l : Addr} {ws : List V} (S : Sat M t G H σ ρ) (e : ρ[i]? = some (.own xs)) (e1 : σ[i]? = some (some (.ref l))) (d : DeAll K G ws ys) : Sat M t G (upd H l (.lst ws)) σ (ρ.set i (.own ys)) := by
  obtain ⟨l', vs, e1', n, g, h, h0, _⟩ := S.at_ i _ e
  rw [e1] at e1'
  cases e1'
  have hi : i < ρ.length := by
    by_cases q : i < ρ.length
    · exact q
    · rw [List.getElem?_eq_none (by omega)] at e
      cases e
  have sub : Same G (upd H l (.lst ws)) := fun b u z => by
    rw [upd_ne (ne_of_none z g)]
    exact S.ok.sub b u z
  have rd : ∃ o, (upd H l (.lst ws)) M.r = some o ∧ Wo t G o := by
    obtain ⟨o, q, w⟩ := S.ok.rd
    refine ⟨o, ?_, w⟩
    rw [upd_ne (Ne.symm n)]
    exact q
  refine ⟨⟨S.st.gg, fun b u nb z => ?_, S.st.fr, sub, rd⟩, ⟨sub, S.ok.gr, rd⟩, by rw [List.length_set]; exact S.len, fun j b e2 => ?_, fun a b ps qs k ne e2 e3 e4 e5 => ?_⟩
  · rw [upd_ne (ne_of_none z h0)]
    exact S.st.hh b u nb z
  · by_cases hj : i = j
    · subst hj
      rw [List.getElem?_set_self hi] at e2
      cases e2
      exact ⟨l, ws, e1, n, g, upd_same, h0, d⟩
    · rw [List.getElem?_set_ne hj] at e2
      have s := S.at_ j b e2
      cases b with
      | un => trivial
      | rd => exact s
      | d x => exact s
      | own zs =>
        obtain ⟨l2, us, e3, n2, g2, h2, h02, d2⟩ := s
        refine ⟨l2, us, e3, n2, g2, ?_, h02, d2⟩
        have : l2 ≠ l := fun z => by
          subst z
          exact S.dis i j xs zs l2 hj e e2 e1 e3
        rw [upd_ne this]
        exact h2
  · have own : ∀ (c : Nat) (zs : List PyData), (ρ.set i (.own ys))[c]? = some (.own zs) → ∃ zs', ρ[c]? = some (.own zs') := fun c zs z => by
      by_cases hc : i = c
      · subst hc
        exact ⟨_, e⟩
      · rw [List.getElem?_set_ne hc] at z
        exact ⟨_, z⟩
    obtain ⟨ps', q1⟩ := own a ps e2
    obtain ⟨qs', q2⟩ := own b qs e3
    exact S.dis a b ps' qs' k ne q1 q2 e4 e5
theorem Sat.ne_r (S : Sat M t G H σ ρ) {l : Addr} (n : H l = none) : l ≠ M.r := fun z => by
  obtain ⟨o, q, _⟩ := S.ok.rd
  rw [z, q] at n
  cases n
theorem DS.imp {ts : TS} {D D' : Dk} (h : DS M ts ρ t D) (i1 : ∀ ρ t, D.nx ρ t → D'.nx ρ t) (i2 : ∀ b t, D.rt b t → D'.rt b t) (i3 : ∀ ρ t, D.bk ρ t → D'.bk ρ t) (i4 : ∀ ρ t, D.ct ρ t → D'.ct ρ t) : DS M ts ρ t D' := fun σ G H S E F =>
  h σ G H S E ⟨fun σ G H ρ t s m d => F.nx σ G H ρ t s m (i1 _ _ d), fun σ G H ρ t s m d => F.bk σ G H ρ t s m (i3 _ _ d), fun σ G H ρ t s m d => F.ct σ G H ρ t s m (i4 _ _ d), fun G H t v x s e d => F.rt G H t v x s e (i2 _ _ d), fun G H t l ws xs s a b c e d => F.rtL G H t l ws xs s a b c e (i2 _ _ d)⟩
end

section
variable {X : Cx} {Wo : WO} {M : Md X.K Wo} {ρ : List B} {t : Rs} {D : Dk} {st : Stmt} {rest : List Stmt} {e c : Expr} {es : List Expr} {pos : Pos}
theorem js_of {ts : TS} (h : PS X st ts) (d : DS M ts ρ t D) : JS M st ρ t D := fun σ G H S E F => TsOf.of h (d σ G H S E F)
theorem jss_nil (h : D.nx ρ t) : JSs M [] ρ t D := fun σ G H S E F => TssOf.of pss_nil (F.nx σ G H ρ t S (Same.refl _) h)
theorem jss_cons (h : JS M st ρ t { D with nx := fun ρ' t' => JSs M rest ρ' t' D }) : JSs M (st :: rest) ρ t D := fun σ G H S E F => TssOf.of (pss_cons psT pssT) (h σ G H S { E with nx := fun σ' H' => TssOf X rest E σ' H' } ⟨fun σ' G' H' ρ' t' S' m h' => h' σ' G' H' S' E (F.mono m), F.bk, F.ct, F.rt, F.rtL⟩)
theorem jss_one (h : JS M st ρ t D) : JSs M [st] ρ t D := fun σ G H S E F => TssOf.of (pss_one psT) (h σ G H S E F)
theorem js_if {a b : List Stmt} (h : JT M c ρ t fun k t1 => (k = true → JSs M a ρ t1 D) ∧ (k = false → JSs M b ρ t1 D)) : JS M (.If c a b pos) ρ t D := js_of (ps_if ptT pssT pssT) fun σ G H S E F => h σ G H S _ fun G1 H1 k t1 s1 ⟨h1, h2⟩ => by
  cases k with
  | true => exact iteT (h1 rfl σ G1 H1 (S.step s1) E (F.mono s1.gg))
  | false => exact iteF (h2 rfl σ G1 H1 (S.step s1) E (F.mono s1.gg))
theorem js_ret (h : JD M e ρ t fun x t1 => D.rt (.d x) t1) : JS M (.Return (some e) pos) ρ t D := js_of (ps_ret peT) fun σ G H S E F => h σ G H S _ fun G1 H1 v x t1 s1 d1 p => F.rt G1 H1 t1 v x (S.st.trans s1) d1 p
theorem js_retL (h : JL M e ρ t fun xs t1 => D.rt (.own xs) t1) : JS M (.Return (some e) pos) ρ t D := js_of (ps_ret peT) fun σ G H S E F => h σ G H S _ fun G1 H1 l ws xs t1 s1 n g e a p => F.rtL G1 H1 t1 l ws xs (S.st.trans s1) (fresh_of S.st n) g e a p
theorem js_retN (h : D.rt (.d .none) t) : JS M (.Return none pos) ρ t D := js_of ps_retN fun σ G H S E F => F.rt G H t .non .none S.st .non h
theorem js_expr (h : JD M e ρ t fun _ t1 => D.nx ρ t1) (hs : swapsWith e none pos.line X.env = pure false := by rfl) : JS M (.Expr e pos) ρ t D := js_of (ps_expr peT hs) fun σ G H S E F => h σ G H S _ fun G1 H1 v x t1 s1 d1 p => F.nx σ G1 H1 ρ t1 (S.step s1) s1.gg p
theorem js_cont (h : D.ct ρ t) : JS M (.Continue pos) ρ t D := js_of ps_continue fun σ G H S E F => F.ct σ G H ρ t S (Same.refl _) h
theorem js_break (h : D.bk ρ t) : JS M (.Break pos) ρ t D := js_of ps_break fun σ G H S E F => F.bk σ G H ρ t S (Same.refl _) h
theorem js_pass (h : D.nx ρ t) : JS M (.Pass pos) ρ t D := js_of ps_pass fun σ G H S E F => F.nx σ G H ρ t S (Same.refl _) h
theorem js_set (i : Nat) {x : Str} {pos' : Pos} (hN : X.N.Nodup) (h : JD M e ρ t fun y t1 => D.nx (ρ.set i (.d y)) t1) (hi : X.N[i]? = some x := by rfl) (hx : L2.Loc X.env.scope x := by exact Or.inl rfl) (hs : swapsWith e (some (.Name x pos')) pos.line X.env = pure false := by rfl)
    (hf : X.fn x = true ∨ X.env.scope.names.lookup x = some .local := by first | exact .inl rfl | exact .inr rfl) : JS M (.Assign [.Name x pos'] e pos) ρ t D := js_of (ps_set hN hi hx peT hs hf) fun σ G H S E F =>
  h σ G H S _ fun G1 H1 v y t1 s1 d1 p => F.nx _ G1 H1 _ t1 ((S.step s1).set d1) s1.gg p
theorem js_setL (i : Nat) {x : Str} {pos' : Pos} (hN : X.N.Nodup) (h : JL M e ρ t fun ys t1 => D.nx (ρ.set i (.own ys)) t1) (hi : X.N[i]? = some x := by rfl) (hx : L2.Loc X.env.scope x := by exact Or.inl rfl) (hs : swapsWith e (some (.Name x pos')) pos.line X.env = pure false := by rfl)
    (hf : X.fn x = true ∨ X.env.scope.names.lookup x = some .local := by first | exact .inl rfl | exact .inr rfl) : JS M (.Assign [.Name x pos'] e pos) ρ t D := js_of (ps_set hN hi hx peT hs hf) fun σ G H S E F =>
  h σ G H S _ fun G1 H1 l ws xs t1 s1 n g e1 a p => F.nx _ G1 H1 _ t1 ((S.step s1).setL (S.ne_r n) g e1 (fresh_of S.st n) a fun j ys _ z => S.fresh n z) s1.gg p
/-- a slot's list is data from here on -/
theorem jss_freeze (i : Nat) {st : List Stmt} {xs : List PyData} (e : ρ[i]? = some (.own xs)) (h : JSs M st (ρ.set i (.d (.list xs))) t D) : JSs M st ρ t D := fun σ G H S E F => by
  obtain ⟨l, ws, _, _, up, _, S'⟩ := S.freeze e
  exact h σ _ H S' E (F.mono up)
theorem js_freeze (i : Nat) {xs : List PyData} (e : ρ[i]? = some (.own xs)) (h : JS M st (ρ.set i (.d (.list xs))) t D) : JS M st ρ t D := fun σ G H S E F => by
  obtain ⟨l, ws, _, _, up, _, S'⟩ := S.freeze e
  exact h σ _ H S' E (F.mono up)
/-- the list of a slot is handed back -/
theorem js_retO (i : Nat) {x : Str} {p : Pos} {xs : List PyData} (hr : ρ[i]? = some (.own xs)) (h : D.rt (.own xs) t) (hN : X.N[i]? = some x := by rfl) (hv : Vis X.env.scope x := by first | exact Or.inl rfl | exact Or.inr (Or.inl rfl) | exact Or.inr (Or.inr rfl))
    (hd : (x == ("__debug__" : Str)) = false := by decide) (hcd : (x == ("__classdict__" : Str)) = false := by decide) : JS M (.Return (some (.Name x p)) pos) ρ t D := js_of (ps_ret (pv i hN hv hd hcd)) fun σ G H S E F => by
  obtain ⟨l, ws, e1, n, g, h1, h0, d⟩ := S.at_ i _ hr
  exact ⟨.ref l, e1, F.rtL G H t l ws xs S.st h0 g h1 d h⟩
/-! ### targets -/
theorem dg_name {K : PySem.W.Frag} {Wo : WO} {M : Md K Wo} {i : Nat} {x : PyData} {ρ : List B} {Q : List B → Prop} (h : Q (ρ.set i (.d x))) : DG M (gName i) x ρ Q := fun t G H σ v S d R r => r _ _ (S.set d) h
theorem dg_two {K : PySem.W.Frag} {Wo : WO} {M : Md K Wo} {i j : Nat} {x y : PyData} {ρ : List B} {Q : List B → Prop} (h : Q ((ρ.set i (.d x)).set j (.d y))) : DG M (gTup K 2 (gCons (gName i) (gCons (gName j) gNil))) (.tuple [x, y]) ρ Q := fun t G H σ v S d R r => by
  obtain ⟨a, vs, rfl, st, da⟩ := d.tupE
  cases da with
  | cons d1 da => cases da with
    | cons d2 da =>
      cases da
      exact ⟨a, _, rfl, sqt_up S.ok.sub st, rfl, _, _, rfl, _, _, rfl, rfl, r _ _ ((S.set d1).set d2) h⟩
theorem dg_three {K : PySem.W.Frag} {Wo : WO} {M : Md K Wo} {i j k : Nat} {x y z : PyData} {ρ : List B} {Q : List B → Prop} (h : Q (((ρ.set i (.d x)).set j (.d y)).set k (.d z))) : DG M (gTup K 3 (gCons (gName i) (gCons (gName j) (gCons (gName k) gNil)))) (.tuple [x, y, z]) ρ Q := fun t G H σ v S d R r => by
  obtain ⟨a, vs, rfl, st, da⟩ := d.tupE
  cases da with
  | cons d1 da => cases da with
    | cons d2 da => cases da with
      | cons d3 da =>
        cases da
        exact ⟨a, _, rfl, sqt_up S.ok.sub st, rfl, _, _, rfl, _, _, rfl, _, _, rfl, rfl, r _ _ (((S.set d1).set d2).set d3) h⟩
theorem js_asg {tg : Expr} {g : TG} (hg : PG X tg g) (h : JD M e ρ t fun y t1 => DG M g y ρ fun ρ' => D.nx ρ' t1) (hs : swapsWithSole [tg] e pos.line X.env = pure false := by rfl) (hw : swappedStores [tg] e X.env = pure none := by rfl)
    (h1 : (assignEach [tg] X.env).map (·.2) = [assign tg X.env] := by rfl) : JS M (.Assign [tg] e pos) ρ t D := js_of (ps_asg peT hg hs hw h1) fun σ G H S E F =>
  h σ G H S _ fun G1 H1 v y t1 s1 d1 p => p t1 G1 H1 σ v (S.step s1) d1 _ fun σ' ρ' S' q => F.nx σ' G1 H1 ρ' t1 S' s1.gg q
/-- a, b = e1, e2 -/
theorem js_par (i j : Nat) {x y : Str} {a b : Expr} {px py pt pt2 : Pos} {kt k2 : Nat} (hc : X.calm = true) (hN : X.N.Nodup) (hij : i ≠ j) (hw : swappedStores [.Tuple [.Name x px, .Name y py] kt pt] (.Tuple [a, b] k2 pt2) X.env = pure (some [x, y]))
    (h : JA M [a, b] ρ t fun bs t1 => ∃ u v, bs = [.d u, .d v] ∧ D.nx ((ρ.set i (.d u)).set j (.d v)) t1)
    (hi : X.N[i]? = some x := by rfl) (hj : X.N[j]? = some y := by rfl) (hx : X.env.scope.names.lookup x = some .local := by rfl) (hy : X.env.scope.names.lookup y = some .local := by rfl)
    (hs : swapsWithSole [.Tuple [.Name x px, .Name y py] kt pt] (.Tuple [a, b] k2 pt2) pos.line X.env = pure false := by rfl) : JS M (.Assign [.Tuple [.Name x px, .Name y py] kt pt] (.Tuple [a, b] k2 pt2) pos) ρ t D :=
  js_of (ps_par hc hN hi hj hij hx hy paT hw hs) fun σ G H S E F => h σ G H S _ fun G1 H1 vs bs t1 s1 a1 ⟨u, v, e, p⟩ => by
    subst e
    cases a1 with
    | cons d1 r => cases r with
      | cons d2 r =>
        cases r
        cases d1 with
        | d d1 => cases d2 with
          | d d2 => exact ⟨_, _, rfl, F.nx _ G1 H1 _ t1 (((S.step s1).set d1).set d2) s1.gg p⟩
theorem js_par3 (i j k : Nat) {x y z : Str} {a b c : Expr} {px py pz pt pt2 : Pos} {kt k2 : Nat} (ps : ∀ {ta : TA}, PA X [a, b, c] ta → PS X st (tPar3 i j k ta))
    (h : JA M [a, b, c] ρ t fun bs t1 => ∃ u v w, bs = [.d u, .d v, .d w] ∧ D.nx (((ρ.set i (.d u)).set j (.d v)).set k (.d w)) t1) : JS M st ρ t D :=
  js_of (ps paT) fun σ G H S E F => h σ G H S _ fun G1 H1 vs bs t1 s1 a1 ⟨u, v, w, e, p⟩ => by
    subst e
    cases a1 with
    | cons d1 r => cases r with
      | cons d2 r => cases r with
        | cons d3 r =>
          cases r
          cases d1 with
          | d d1 => cases d2 with
            | d d2 => cases d3 with
              | d d3 => exact ⟨_, _, _, rfl, F.nx _ G1 H1 _ t1 ((((S.step s1).set d1).set d2).set d3) s1.gg p⟩
end
end Dl
end
section
set_option maxRecDepth 100000
set_option maxHeartbeats 4000000
namespace Dl
open PySem PySem.Spec PyProof.Rows L2

/-! ### what is walked -/
@[irreducible] def TiOf (X : Cx) (tg e : Expr) : TI := fun σ H R => ∀ (pins : List (Addr × Obj)) (s : Shared), Inv X pins σ H s →
  wpAny (model X.prog X.w) X.A (eval e X.env) (fun v s1 => wpAny (model X.prog X.w) X.A (pyIter v) (PIE X pins σ tg R) X.xe s1) X.xe s
theorem piT {X : Cx} {tg e : Expr} : PI X tg e (TiOf X tg e) := by unfold TiOf; exact ⟨fun pins s σ H R I h => h pins s I⟩
theorem TiOf.of {X : Cx} {tg e : Expr} {ti : TI} {σ : L2.St} {H : Hp} (h : PI X tg e ti) {R : It → Hp → Prop} (q : ti σ H R) : TiOf X tg e σ H R := by unfold TiOf; exact fun pins s I => h.run pins s σ H R I q
/-- the walk J gives the data xs, one after another, from the data heap G0 on -/
structure Wk {K : PySem.W.Frag} {Wo : WO} (M : Md K Wo) (G0 : Hp) (J : It) (xs : List PyData) : Prop where
  stop : ∀ (i : Nat) (t : Rs) (G H : Hp), Same G0 G → Ok M t G H → xs.length ≤ i → J.stop i H
  go : ∀ (i : Nat) (t : Rs) (G H : Hp), Same G0 G → Ok M t G H → i < xs.length → J.go i H
  yld : ∀ (i : Nat) (t : Rs) (G H : Hp) (x : V) (H' : Hp), Same G0 G → Ok M t G H → J.yld i H x H' → i < xs.length → ∃ G' d, Stp M t G H G' H' ∧ xs[i]? = some d ∧ De K G' x d
def DI {K : PySem.W.Frag} {Wo : WO} (M : Md K Wo) (ti : TI) (ρ : List B) (t : Rs) (P : List PyData → Rs → Prop) : Prop := ∀ (σ : L2.St) (G H : Hp), Sat M t G H σ ρ → ∀ R : It → Hp → Prop,
  (∀ (G' H' : Hp) (J : It) (xs : List PyData) (t' : Rs), Stp M t' G H G' H' → Wk M G' J xs → P xs t' → R J H') → ti σ H R
section
variable {X : Cx} {Wo : WO} (M : Md X.K Wo)
abbrev JI (tg e : Expr) (ρ : List B) (t : Rs) (P : List PyData → Rs → Prop) : Prop := DI M (TiOf X tg e) ρ t P
end
theorem wk_lst {K : PySem.W.Frag} {Wo : WO} {M : Md K Wo} {G0 : Hp} {a : Addr} {vs : List V} {xs : List PyData} (h : G0 a = some (.lst vs)) (d : DeAll K G0 vs xs) : Wk M G0 (Itl K a) xs where
  stop := fun i t G H e k hi => ⟨vs, .inl (.inl (k.sub _ _ (e _ _ h))), by rw [d.length]; exact hi⟩
  go := fun i t G H e k hi => ⟨vs, vs[i]'(by rw [d.length]; exact hi), .inl (.inl (k.sub _ _ (e _ _ h))), List.getElem?_eq_getElem _⟩
  yld := fun i t G H x H' e k y hi => by
    obtain ⟨rfl, y⟩ := y
    have e1 := y vs (.inl (.inl (k.sub _ _ (e _ _ h))))
    obtain ⟨z, e2, d2⟩ := d.ofV e1
    exact ⟨G, z, k.refl, e2, De.up e _ _ d2⟩
theorem wk_tup {K : PySem.W.Frag} {Wo : WO} {M : Md K Wo} {G0 : Hp} {a : Addr} {vs : List V} {xs : List PyData} (h : SqT K G0 a vs) (d : DeAll K G0 vs xs) : Wk M G0 (Itt K a) xs where
  stop := fun i t G H e k hi => ⟨vs, sqt_up (e.trans k.sub) h, by rw [d.length]; exact hi⟩
  go := fun i t G H e k hi => ⟨vs, vs[i]'(by rw [d.length]; exact hi), sqt_up (e.trans k.sub) h, List.getElem?_eq_getElem _⟩
  yld := fun i t G H x H' e k y hi => by
    obtain ⟨rfl, y⟩ := y
    have e1 := y vs (sqt_up (e.trans k.sub) h)
    obtain ⟨z, e2, d2⟩ := d.ofV e1
    exact ⟨G, z, k.refl, e2, De.up e _ _ d2⟩
/-- lo, lo + 1, .. -/
def rngD (lo : Int) (n : Nat) : List PyData := (List.range n).map fun i => .int (lo + (i : Nat))
theorem rngD_len (lo : Int) (n : Nat) : (rngD lo n).length = n := by simp [rngD]
theorem rngD_at {lo : Int} {n i : Nat} (h : i < n) : (rngD lo n)[i]? = some (.int (lo + (i : Nat))) := by simp [rngD, h]
theorem rngD_of {lo : Int} {n i : Nat} {x : PyData} (h : (rngD lo n)[i]? = some x) : i < n ∧ x = .int (lo + (i : Nat)) := by
  by_cases hi : i < n
  · rw [rngD_at hi] at h
    exact ⟨hi, (Option.some.inj h).symm⟩
  · rw [List.getElem?_eq_none (by rw [rngD_len]; omega)] at h
    cases h
theorem wk_rng {K : PySem.W.Frag} {Wo : WO} {M : Md K Wo} {G0 : Hp} {lo : Int} {n : Nat} : Wk M G0 (Itr lo n) (rngD lo n) where
  stop := fun i t G H e k hi => by
    rw [rngD_len] at hi
    exact hi
  go := fun i t G H e k hi => by
    rw [rngD_len] at hi
    exact hi
  yld := fun i t G H x H' e k y hi => by
    obtain ⟨rfl, rfl⟩ := y
    rw [rngD_len] at hi
    exact ⟨G, _, k.refl, rngD_at hi, .int _⟩
def sgnD (x : Str) : List PyData := x.cps.toList.map fun c => .str ⟨#[c]⟩
theorem wk_str {K : PySem.W.Frag} {Wo : WO} {M : Md K Wo} {G0 : Hp} {x : Str} : Wk M G0 (Its x) (sgnD x) where
  stop := fun i t G H e k hi => by
    simp only [sgnD, List.length_map, Array.length_toList] at hi
    exact hi
  go := fun i t G H e k hi => by
    simp only [sgnD, List.length_map, Array.length_toList] at hi
    exact hi
  yld := fun i t G H v H' e k y hi => by
    obtain ⟨rfl, c, ec, rfl⟩ := y
    refine ⟨G, .str ⟨#[c]⟩, k.refl, ?_, .str _⟩
    simp only [sgnD, List.getElem?_map, Array.getElem?_toList, ec]
    rfl
section
variable {X : Cx} {Wo : WO} {M : Md X.K Wo} {ρ : List B} {t : Rs} {e a b tg : Expr} {P : List PyData → Rs → Prop} {pos p : Pos}
theorem ji_lst (h : JD M e ρ t fun x t1 => ∃ xs, x = .list xs ∧ P xs t1) : JI M tg e ρ t P := fun σ G H S R r => TiOf.of (pi_list peT) (h σ G H S _ fun G1 H1 v x t1 s1 d1 ⟨xs, e, p⟩ => by
  subst e
  obtain ⟨a, vs, rfl, st, da⟩ := d1.lstE
  exact ⟨a, rfl, ⟨vs, .inl (.inl ((S.step s1).ok.sub _ _ st))⟩, r G1 H1 _ xs t1 s1 (wk_lst st da) p⟩)
theorem ji_tup (h : JD M e ρ t fun x t1 => ∃ xs, x = .tuple xs ∧ P xs t1) : JI M tg e ρ t P := fun σ G H S R r => TiOf.of (pi_tup peT) (h σ G H S _ fun G1 H1 v x t1 s1 d1 ⟨xs, e, p⟩ => by
  subst e
  obtain ⟨a, vs, rfl, st, da⟩ := d1.tupE
  exact ⟨a, rfl, ⟨vs, sqt_up (S.step s1).ok.sub st⟩, r G1 H1 _ xs t1 s1 (wk_tup st da) p⟩)
theorem ji_str (h : JD M e ρ t fun x t1 => ∃ z, x = .str z ∧ P (sgnD z) t1) : JI M tg e ρ t P := fun σ G H S R r => TiOf.of (pi_str peT) (h σ G H S _ fun G1 H1 v x t1 s1 d1 ⟨z, e, p⟩ => by
  subst e
  exact ⟨z, d1.strE, r G1 H1 _ _ t1 s1 wk_str p⟩)
theorem ji_rng1 (hg : Gl X (Str.ofString "range")) (hm : X.mg (Str.ofString "range") = none) (h : JD M a ρ t fun x t1 => ∃ j : Int, x = .int j ∧ -(2 ^ 62) ≤ j ∧ j < 2 ^ 62 ∧ P (rngD 0 j.toNat) t1)
    (hs : starEach [a] X.env = [(false, eval a X.env)] := by rfl) : JI M tg (.Call (.Name (Str.ofString "range") p) [a] [] pos) ρ t P := fun σ G H S R r => TiOf.of (pi_range1 hg hm (pa_cons peT pa_nil hs) hs) (h σ G H S _ fun G1 H1 v x t1 s1 d1 ⟨j, e, h1, h2, q⟩ => by
  subst e
  refine ⟨j, ?_, h1, h2, r G1 H1 _ _ t1 s1 wk_rng q⟩
  rw [d1.intE])
theorem ji_rng2 (hg : Gl X (Str.ofString "range")) (hm : X.mg (Str.ofString "range") = none) (h : JD M a ρ t fun x t1 => ∃ i : Int, x = .int i ∧ JD M b ρ t1 fun y t2 => ∃ j : Int, y = .int j ∧ (-(2 ^ 62) ≤ i ∧ i < 2 ^ 62 ∧ -(2 ^ 62) ≤ j ∧ j < 2 ^ 62) ∧ P (rngD i (j - i).toNat) t2)
    (hs : starEach [a, b] X.env = [(false, eval a X.env), (false, eval b X.env)] := by rfl) (hs2 : starEach [b] X.env = [(false, eval b X.env)] := by rfl) : JI M tg (.Call (.Name (Str.ofString "range") p) [a, b] [] pos) ρ t P := fun σ G H S R r =>
  TiOf.of (pi_range2 hg hm (pa_cons peT (pa_cons peT pa_nil hs2) (by rw [hs, hs2])) hs hs2) (h σ G H S _ fun G1 H1 v x t1 s1 d1 ⟨i, e, h1⟩ => h1 σ G1 H1 (S.step s1) _ fun G2 H2 w y t2 s2 d2 ⟨j, e2, hb, q⟩ => by
    subst e e2
    refine ⟨i, j, ?_, hb, r G2 H2 _ _ t2 (s1.trans s2) wk_rng q⟩
    rw [d1.intE, d2.intE])

/-! ### for, while -/
theorem js_for {D : Dk} {body : List Stmt} {g : TG} (hp : PassesOwn (model X.prog X.w) X.A X.env X.xe) (hc : X.calm = true) (hg : PG X tg g)
    (h : JI M tg e ρ t fun xs t1 => ∃ Iv : Nat → List B → Rs → Prop, Iv 0 ρ t1 ∧
      (∀ (i : Nat) (x : PyData) (ρ' : List B) (t' : Rs), xs[i]? = some x → Iv i ρ' t' → DG M g x ρ' fun ρ2 => JSs M body ρ2 t' { D with nx := Iv (i + 1), ct := Iv (i + 1), bk := D.nx }) ∧
      (∀ (ρ' : List B) (t' : Rs), Iv xs.length ρ' t' → D.nx ρ' t'))
    (hs : ∀ x, foldedSetIterable e X.env x = pure x := by intro _; rfl) : JS M (.For tg e body [] pos) ρ t D := js_of (ps_for hp hc piT hg pssT hs) fun σ G H S E F => h σ G H S _ fun G1 H1 J xs t1 s1 wk ⟨Iv, h0, hst, hd⟩ => by
  refine ⟨fun i m σ' H' => m = xs.length - i ∧ i ≤ xs.length ∧ ∃ G' ρ' t', Sat M t' G' H' σ' ρ' ∧ Same G1 G' ∧ Iv i ρ' t', ⟨xs.length, rfl, Nat.zero_le _, G1, ρ, t1, S.step s1, Same.refl _, h0⟩, ?_⟩
  rintro i m σ' H' ⟨rfl, hi, G', ρ', t', S', sm, hI⟩
  by_cases hlt : i < xs.length
  · refine .inr ⟨wk.go i t' G' H' sm S'.ok hlt, fun σ2 H2 => ∃ G2 ρ2 t2, Sat M t2 G2 H2 σ2 ρ2 ∧ Same G1 G2 ∧ Iv (i + 1) ρ2 t2, fun σ2 H2 ⟨G2, ρ2, t2, a1, a2, a3⟩ => ⟨xs.length - (i + 1), by omega, rfl, hlt, G2, ρ2, t2, a1, a2, a3⟩, fun x H2 y => ?_⟩
    obtain ⟨G2, d, s2, e2, d2⟩ := wk.yld i t' G' H' x H2 sm S'.ok y hlt
    refine hst i d ρ' t' e2 hI t' G2 H2 σ' x (S'.step s2) d2 _ fun σ3 ρ3 S3 hb => ?_
    exact hb σ3 G2 H2 S3 _ ⟨fun σ4 G4 H4 ρ4 t4 S4 m q => ⟨G4, ρ4, t4, S4, (sm.trans s2.gg).trans m, q⟩, fun σ4 G4 H4 ρ4 t4 S4 m q => F.nx σ4 G4 H4 ρ4 t4 S4 (((s1.gg.trans sm).trans s2.gg).trans m) q,
      fun σ4 G4 H4 ρ4 t4 S4 m q => ⟨G4, ρ4, t4, S4, (sm.trans s2.gg).trans m, q⟩, F.rt, F.rtL⟩
  · have ei : i = xs.length := by omega
    subst ei
    exact .inl ⟨wk.stop _ t' G' H' sm S'.ok (Nat.le_refl _), F.nx σ' G' H' ρ' t' S' (s1.gg.trans sm) (hd ρ' t' hI)⟩
/-- while c: body; Iv by a number that falls -/
theorem js_while {D : Dk} {c : Expr} {body : List Stmt} (hp : PassesOwn (model X.prog X.w) X.A X.env X.xe) (Iv : Nat → List B → Rs → Prop) (m0 : Nat) (h0 : Iv m0 ρ t)
    (h : ∀ (m : Nat) (ρ' : List B) (t' : Rs), Iv m ρ' t' → JT M c ρ' t' fun k t1 => (k = true → JSs M body ρ' t1 { D with nx := fun ρ2 t2 => ∃ m', m' < m ∧ Iv m' ρ2 t2, ct := fun ρ2 t2 => ∃ m', m' < m ∧ Iv m' ρ2 t2, bk := D.nx }) ∧ (k = false → D.nx ρ' t1)) :
    JS M (.While c body [] pos) ρ t D := js_of (ps_while hp ptT pssT) fun σ G H S E F => by
  refine ⟨fun m σ' H' => ∃ G' ρ' t', Sat M t' G' H' σ' ρ' ∧ Same G G' ∧ Iv m ρ' t', ⟨m0, G, ρ, t, S, Same.refl _, h0⟩, ?_⟩
  rintro m σ' H' ⟨G', ρ', t', S', sm, hI⟩
  refine h m ρ' t' hI σ' G' H' S' _ fun G1 H1 k t1 s1 ⟨h1, h2⟩ => ?_
  cases k with
  | true =>
    refine iteT ⟨fun σ2 H2 => ∃ m', m' < m ∧ ∃ G2 ρ2 t2, Sat M t2 G2 H2 σ2 ρ2 ∧ Same G G2 ∧ Iv m' ρ2 t2, fun σ2 H2 ⟨m', hm, q⟩ => ⟨m', hm, q⟩, ?_⟩
    exact h1 rfl σ' G1 H1 (S'.step s1) _ ⟨fun σ4 G4 H4 ρ4 t4 S4 g ⟨m', hm, q⟩ => ⟨m', hm, G4, ρ4, t4, S4, (sm.trans s1.gg).trans g, q⟩, fun σ4 G4 H4 ρ4 t4 S4 g q => F.nx σ4 G4 H4 ρ4 t4 S4 ((sm.trans s1.gg).trans g) q,
      fun σ4 G4 H4 ρ4 t4 S4 g ⟨m', hm, q⟩ => ⟨m', hm, G4, ρ4, t4, S4, (sm.trans s1.gg).trans g, q⟩, F.rt, F.rtL⟩
  | false => exact iteF (F.nx σ' G1 H1 ρ' t1 (S'.step s1) (sm.trans s1.gg) (h2 rfl))
end

/-! ### comprehensions -/
def wipeB (ρ : List B) : List Nat → List B
  | [] => ρ
  | v :: vs => (wipeB ρ vs).set v .un
theorem Sat.wipe {K : PySem.W.Frag} {Wo : WO} {M : Md K Wo} {t : Rs} {G H : Hp} {σ : L2.St} {ρ : List B} (S : Sat M t G H σ ρ) : ∀ vs : List Nat, Sat M t G H (L2.wipe σ vs) (wipeB ρ vs)
  | [] => S
  | v :: vs => (Sat.wipe S vs).un
/-- the names of a comprehension are its target's alone -/
def Wipes (g : TG) (vs : List Nat) : Prop := ∀ (v : V) (σ : L2.St) (H : Hp) (Q : L2.St → Hp → Prop), g v (wipe σ vs) H Q → g v (wipe σ vs) H fun σ2 H2 => wipe σ2 vs = wipe σ vs ∧ Q σ2 H2
theorem wipes1 {i : Nat} : Wipes (gName i) [i] := fun v σ H Q h => ⟨by simp [wipe], h⟩
theorem wipes2 {K : PySem.W.Frag} {i j n : Nat} (hij : i ≠ j) : Wipes (gTup K n (gCons (gName i) (gCons (gName j) gNil))) [i, j] := fun v σ H Q h => by
  obtain ⟨a, xs, e, q, l, x, r, e1, y, r2, e2, e3, h⟩ := h
  refine ⟨a, xs, e, q, l, x, r, e1, y, r2, e2, e3, ?_, h⟩
  simp only [wipe, List.set_set]
  rw [List.set_comm _ _ hij]
  simp only [List.set_set]
theorem wipes3 {K : PySem.W.Frag} {i j k n : Nat} (hij : i ≠ j) (hik : i ≠ k) (hjk : j ≠ k) : Wipes (gTup K n (gCons (gName i) (gCons (gName j) (gCons (gName k) gNil)))) [i, j, k] := fun v σ H Q h => by
  obtain ⟨a, xs, e, q, l, x, r, e1, y, r2, e2, z, r3, e3, e4, h⟩ := h
  refine ⟨a, xs, e, q, l, x, r, e1, y, r2, e2, z, r3, e3, e4, ?_, h⟩
  simp only [wipe, List.set_set]
  apply List.ext_getElem?
  intro m
  simp only [List.getElem?_set]
  repeat' split
  all_goals first | (simp_all; done) | omega | (simp_all; omega)
abbrev Blk (X : Cx) (scope : Scope) (s : Shared) (H : Hp) (C : Addr) (cl : List (Str × Addr)) (fp : List Addr) : Cx := X.blk s H scope (compEnvC scope cl C X.env) fp
@[irreducible] def TeAll (X : Cx) (scope : Scope) (e : Expr) : TE := fun σ H Q => ∀ (s : Shared) (H0 : Hp) (C : Addr) (cl : List (Str × Addr)) (fp : List Addr), TeOf (Blk X scope s H0 C cl fp) e σ H Q
@[irreducible] def TtAll (X : Cx) (scope : Scope) (e : Expr) : TT := fun σ H Q => ∀ (s : Shared) (H0 : Hp) (C : Addr) (cl : List (Str × Addr)) (fp : List Addr), TtOf (Blk X scope s H0 C cl fp) e σ H Q
section
variable {X : Cx} {Wo : WO} {M : Md X.K Wo} {ρ : List B} {t : Rs} {elt cond tg iter : Expr} {P : List PyData → Rs → Prop} {pos : Pos} {scope : Scope} {own : List (Str × Nat)} {g : TG}
theorem peA {e : Expr} (s : Shared) (H0 : Hp) (C : Addr) (cl : List (Str × Addr)) (fp : List Addr) : PE (Blk X scope s H0 C cl fp) e (TeAll X scope e) := by unfold TeAll; exact ⟨fun pins s' σ H Q I h => peT.run pins s' σ H Q I (h s H0 C cl fp)⟩
theorem ptA {e : Expr} (s : Shared) (H0 : Hp) (C : Addr) (cl : List (Str × Addr)) (fp : List Addr) : PT (Blk X scope s H0 C cl fp) e (TtAll X scope e) := by unfold TtAll; exact ⟨fun pins s' σ H Q I h => ptT.run pins s' σ H Q I (h s H0 C cl fp)⟩
/-- elt and cond in the block, whatever it begins with -/
def JDb {Wo : WO} (M : Md X.K Wo) (scope : Scope) (e : Expr) (ρ : List B) (t : Rs) (P : PyData → Rs → Prop) : Prop := ∀ (s : Shared) (H0 : Hp) (C : Addr) (cl : List (Str × Addr)) (fp : List Addr), JD (X := Blk X scope s H0 C cl fp) M e ρ t P
def JTb {Wo : WO} (M : Md X.K Wo) (scope : Scope) (e : Expr) (ρ : List B) (t : Rs) (P : Bool → Rs → Prop) : Prop := ∀ (s : Shared) (H0 : Hp) (C : Addr) (cl : List (Str × Addr)) (fp : List Addr), JT (X := Blk X scope s H0 C cl fp) M e ρ t P
theorem JDb.all {e : Expr} {ρ : List B} {t : Rs} {P : PyData → Rs → Prop} (h : JDb M scope e ρ t P) : DD M (TeAll X scope e) ρ t P := fun σ G H S Q q => by first | (unfold TeAll; exact fun s H0 C cl fp => h s H0 C cl fp σ G H S Q q) | (unfold TtAll; exact fun s H0 C cl fp => h s H0 C cl fp σ G H S Q q)
theorem JTb.all {e : Expr} {ρ : List B} {t : Rs} {P : Bool → Rs → Prop} (h : JTb M scope e ρ t P) : DT M (TtAll X scope e) ρ t P := fun σ G H S Q q => by first | (unfold TeAll; exact fun s H0 C cl fp => h s H0 C cl fp σ G H S Q q) | (unfold TtAll; exact fun s H0 C cl fp => h s H0 C cl fp σ G H S Q q)
/-- a turn of a comprehension: tt its test -/
def Turn1 {Wo : WO} (M : Md X.K Wo) (scope : Scope) (elt : Expr) (g : TG) (tt : TT) (vs : List Nat) (ρ : List B) (x : PyData) (t : Rs) (acc : List PyData) (N : List PyData → Rs → Prop) : Prop :=
  DG M g x (wipeB ρ vs) fun ρ2 => DT M tt ρ2 t fun b t2 => (b = true → JDb M scope elt ρ2 t2 fun y t3 => acc.length < 16777216 ∧ N (acc ++ [y]) t3) ∧ (b = false → N acc t2)
theorem lc_dl {wi : TI} {tt : TT} {vs : List Nat} (hw : Wipes g vs) (hi : DI M wi ρ t fun xs t1 => ∃ Iv : Nat → List PyData → Rs → Prop, Iv 0 [] t1 ∧
      (∀ (i : Nat) (x : PyData) (acc : List PyData) (t' : Rs), xs[i]? = some x → Iv i acc t' → Turn1 M scope elt g tt vs ρ x t' acc (Iv (i + 1))) ∧ (∀ (acc : List PyData) (t' : Rs), Iv xs.length acc t' → P acc t')) :
    DL M (tLc wi g tt (TeAll X scope elt) vs) ρ t P := fun σ G H S Q q => hi σ G H S _ fun G1 H1 J xs t1 s1 wk ⟨Iv, h0, hst, hd⟩ D hD => by
  have S1 := S.step s1
  have gD : G1 D = none := none_of S1.ok hD
  refine ⟨fun i m H' => m = xs.length - i ∧ i ≤ xs.length ∧ ∃ G' acc ws t', Stp M t' G1 H1 G' H' ∧ G' D = none ∧ H' D = some (.lst ws) ∧ DeAll X.K G' ws acc ∧ Iv i acc t', ⟨xs.length, rfl, Nat.zero_le _, G1, [], [], t1, S1.ok.layO hD, gD, upd_same, .nil, h0⟩, ?_⟩
  rintro i m H' ⟨rfl, hle, G', acc, ws, t', s', gD', hD', da, hI⟩
  have S' := S1.step s'
  by_cases hlt : i < xs.length
  · refine .inr ⟨wk.go i t' G' H' s'.gg S'.ok hlt, fun H2 => ∃ G2 acc2 ws2 t2, Stp M t2 G1 H1 G2 H2 ∧ G2 D = none ∧ H2 D = some (.lst ws2) ∧ DeAll X.K G2 ws2 acc2 ∧ Iv (i + 1) acc2 t2, fun H2 ⟨G2, acc2, ws2, t2, a1, a2, a3, a4, a5⟩ => ⟨xs.length - (i + 1), by omega, rfl, hlt, G2, acc2, ws2, t2, a1, a2, a3, a4, a5⟩, fun x H2 y => ?_⟩
    obtain ⟨G2, d, s2, e2, d2⟩ := wk.yld i t' G' H' x H2 s'.gg S'.ok y hlt
    refine hw _ _ _ _ (hst i d acc t' e2 hI t' G2 H2 _ x ((S'.step s2).wipe vs) d2 _ fun σ3 ρ3 S3 hT => ?_)
    have nr : D ≠ M.r := S1.ne_r hD
    refine hT σ3 G2 H2 S3 _ fun G4 H4 b t4 s4 ⟨hy, hn⟩ => ?_
    have keepD : ∀ {Ga Ha Gb Hb : Hp} {tb : Rs}, Stp M tb Ga Ha Gb Hb → ∀ {us : List V}, Ha D = some (.lst us) → Ga D = none → Hb D = some (.lst us) ∧ Gb D = none := fun s us h g => ⟨s.hh D _ nr h, s.fr D (by rw [h]; simp) g⟩
    obtain ⟨hD2, gD2⟩ := keepD s2 hD' gD'
    obtain ⟨hD4, gD4⟩ := keepD s4 hD2 gD2
    cases b with
    | false => exact iteF ⟨G4, acc, ws, t4, (s'.trans s2).trans s4, gD4, hD4, DeAll.up (s2.gg.trans s4.gg) _ _ da, hn rfl⟩
    | true =>
      refine iteT ((hy rfl).all σ3 G4 H4 (S3.step s4) _ fun G5 H5 v y t5 s5 d5 ⟨hl, hN⟩ => ?_)
      obtain ⟨hD5, gD5⟩ := keepD s5 hD4 gD4
      have da5 : DeAll X.K G5 ws acc := DeAll.up ((s2.gg.trans s4.gg).trans s5.gg) _ _ da
      have st5 := ((s'.trans s2).trans s4).trans s5
      refine ⟨ws, hD5, line_lt (by rw [da5.length]; exact hl), G5, acc ++ [y], ws ++ [v], t5, ?_, gD5, upd_same, da5.app (.cons d5 .nil), hN⟩
      refine ⟨st5.gg, fun b u nb z => ?_, st5.fr, fun b u z => ?_, ?_⟩
      · by_cases hb : b = D
        · rw [hb] at z
          rw [hD] at z
          cases z
        · rw [upd_ne hb]
          exact st5.hh b u nb z
      · by_cases hb : b = D
        · rw [hb] at z
          rw [gD5] at z
          cases z
        · rw [upd_ne hb]
          exact st5.sub b u z
      · obtain ⟨o, q, w⟩ := st5.rd
        refine ⟨o, ?_, w⟩
        rw [upd_ne (Ne.symm nr)]
        exact q
  · have ei : i = xs.length := by omega
    subst ei
    refine .inl ⟨wk.stop _ t' G' H' s'.gg S'.ok (Nat.le_refl _), ?_⟩
    exact q G' H' D ws acc t' (s1.trans s') (fresh_of s1 hD) gD' hD' da (hd acc t' hI)
end
end Dl
end
section
set_option maxRecDepth 100000
set_option maxHeartbeats 4000000
namespace Dl
open PySem PySem.Spec PyProof.Rows L2

section
variable {X : Cx} {Wo : WO} {M : Md X.K Wo} {ρ : List B} {t : Rs} {elt cond tg iter : Expr} {P : List PyData → Rs → Prop} {pos : Pos} {scope : Scope} {own : List (Str × Nat)} {g : TG} {D : Dk}
/-- a turn without a test -/
def TurnE {Wo : WO} (M : Md X.K Wo) (scope : Scope) (elt : Expr) (g : TG) (vs : List Nat) (ρ : List B) (x : PyData) (t : Rs) (acc : List PyData) (N : List PyData → Rs → Prop) : Prop :=
  DG M g x (wipeB ρ vs) fun ρ2 => JDb M scope elt ρ2 t fun y t3 => acc.length < 16777216 ∧ N (acc ++ [y]) t3
def TurnT {Wo : WO} (M : Md X.K Wo) (scope : Scope) (elt cond : Expr) (g : TG) (vs : List Nat) (ρ : List B) (x : PyData) (t : Rs) (acc : List PyData) (N : List PyData → Rs → Prop) : Prop :=
  DG M g x (wipeB ρ vs) fun ρ2 => JTb M scope cond ρ2 t fun b t2 => (b = true → JDb M scope elt ρ2 t2 fun y t3 => acc.length < 16777216 ∧ N (acc ++ [y]) t3) ∧ (b = false → N acc t2)
theorem TurnE.one {vs : List Nat} {x : PyData} {acc : List PyData} {N : List PyData → Rs → Prop} (h : TurnE M scope elt g vs ρ x t acc N) : Turn1 M scope elt g tYes vs ρ x t acc N := fun t0 G H σ v S d R r =>
  h t0 G H σ v S d R fun σ' ρ' S' j => r σ' ρ' S' fun σ2 G2 H2 S2 Q q => q G2 H2 true t S2.ok.refl ⟨fun _ => j, fun z => by cases z⟩
theorem TurnT.one {vs : List Nat} {x : PyData} {acc : List PyData} {N : List PyData → Rs → Prop} (h : TurnT M scope elt cond g vs ρ x t acc N) : Turn1 M scope elt g (TtAll X scope cond) vs ρ x t acc N := fun t0 G H σ v S d R r =>
  h t0 G H σ v S d R fun σ' ρ' S' j => r σ' ρ' S' j.all
theorem jl_comp (hc : X.calm = true) (hN : X.N.Nodup) (ok : BlkOk X.N X.env.scope scope own) (hw : Wipes g (own.map (·.2)))
    (hg : ∀ (s : Shared) (H : Hp) (C : Addr) (cl : List (Str × Addr)) (fp : List Addr), PG (X.blk s H scope (compEnvC scope cl C X.env) fp) tg g)
    (hi : JI M tg iter ρ t fun xs t1 => ∃ Iv : Nat → List PyData → Rs → Prop, Iv 0 [] t1 ∧
      (∀ (i : Nat) (x : PyData) (acc : List PyData) (t' : Rs), xs[i]? = some x → Iv i acc t' → TurnE M scope elt g (own.map (·.2)) ρ x t' acc (Iv (i + 1))) ∧ (∀ (acc : List PyData) (t' : Rs), Iv xs.length acc t' → P acc t'))
    (hs : ∀ x, foldedSetIterable iter X.env x = pure x := by intro _; rfl) : JL M (.ListComp elt [⟨tg, iter, [], 0⟩] scope pos) ρ t P :=
  jl_of (pe_lc (own := own) (g := g) (tt := tYes) (te := TeAll X scope elt) hc hN piT ok hg (fun _ _ _ _ _ => pts_nil) (fun s H C cl fp => peA s H C cl fp) hs)
    (lc_dl hw fun σ G H S R r => hi σ G H S R fun G' H' J xs t' s wk ⟨Iv, h0, h1, h2⟩ => r G' H' J xs t' s wk ⟨Iv, h0, fun i x acc t' e hI => (h1 i x acc t' e hI).one, h2⟩)
theorem jl_compT (hc : X.calm = true) (hN : X.N.Nodup) (ok : BlkOk X.N X.env.scope scope own) (hw : Wipes g (own.map (·.2)))
    (hg : ∀ (s : Shared) (H : Hp) (C : Addr) (cl : List (Str × Addr)) (fp : List Addr), PG (X.blk s H scope (compEnvC scope cl C X.env) fp) tg g)
    (hi : JI M tg iter ρ t fun xs t1 => ∃ Iv : Nat → List PyData → Rs → Prop, Iv 0 [] t1 ∧
      (∀ (i : Nat) (x : PyData) (acc : List PyData) (t' : Rs), xs[i]? = some x → Iv i acc t' → TurnT M scope elt cond g (own.map (·.2)) ρ x t' acc (Iv (i + 1))) ∧ (∀ (acc : List PyData) (t' : Rs), Iv xs.length acc t' → P acc t'))
    (hs : ∀ x, foldedSetIterable iter X.env x = pure x := by intro _; rfl) : JL M (.ListComp elt [⟨tg, iter, [cond], 0⟩] scope pos) ρ t P :=
  jl_of (pe_lc (own := own) (g := g) (tt := TtAll X scope cond) (te := TeAll X scope elt) hc hN piT ok hg (fun s H C cl fp => pts_one (ptA s H C cl fp)) (fun s H C cl fp => peA s H C cl fp) hs)
    (lc_dl hw fun σ G H S R r => hi σ G H S R fun G' H' J xs t' s wk ⟨Iv, h0, h1, h2⟩ => r G' H' J xs t' s wk ⟨Iv, h0, fun i x acc t' e hI => (h1 i x acc t' e hI).one, h2⟩)
/-- y = [elt for ..] -/
theorem js_comp (i : Nat) {y : Str} {py spos : Pos} (hc : X.calm = true) (hN : X.N.Nodup) (ok : BlkOk X.N X.env.scope scope own) (hw : Wipes g (own.map (·.2)))
    (hg : ∀ (s : Shared) (H : Hp) (C : Addr) (cl : List (Str × Addr)) (fp : List Addr), PG (X.blk s H scope (compEnvC scope cl C X.env) fp) tg g)
    (hsw : swapsWith (.ListComp elt [⟨tg, iter, [], 0⟩] scope pos) (some (.Name y py)) spos.line X.env = pure true)
    (hi : JI M tg iter ρ t fun xs t1 => ∃ Iv : Nat → List PyData → Rs → Prop, Iv 0 [] t1 ∧
      (∀ (i : Nat) (x : PyData) (acc : List PyData) (t' : Rs), xs[i]? = some x → Iv i acc t' → TurnE M scope elt g (own.map (·.2)) ρ x t' acc (Iv (i + 1))) ∧ (∀ (acc : List PyData) (t' : Rs), Iv xs.length acc t' → D.nx (ρ.set i (.own acc)) t'))
    (hy : X.N[i]? = some y := by rfl) (hyl : X.env.scope.names.lookup y = some .local := by rfl) (hs : ∀ x, foldedSetIterable iter X.env x = pure x := by intro _; rfl) : JS M (.Assign [.Name y py] (.ListComp elt [⟨tg, iter, [], 0⟩] scope pos) spos) ρ t D :=
  js_of (ps_setLc (own := own) (g := g) (tt := tYes) (te := TeAll X scope elt) hc hN hy hyl hsw piT ok hg (fun _ _ _ _ _ => pts_nil) (fun s H C cl fp => peA s H C cl fp) hs) fun σ G H S E F =>
    (lc_dl (P := fun acc t' => D.nx (ρ.set i (.own acc)) t') hw fun σ G H S R r => hi σ G H S R fun G' H' J xs t' s wk ⟨Iv, h0, h1, h2⟩ => r G' H' J xs t' s wk ⟨Iv, h0, fun i x acc t' e hI => (h1 i x acc t' e hI).one, h2⟩) σ G H S _ fun G1 H1 l ws xs t1 s1 n g e a p =>
      F.nx _ G1 H1 _ t1 ((S.step s1).setL (S.ne_r n) g e (fresh_of S.st n) a fun j ys _ z => S.fresh n z) s1.gg p
theorem js_compT (i : Nat) {y : Str} {py spos : Pos} (hc : X.calm = true) (hN : X.N.Nodup) (ok : BlkOk X.N X.env.scope scope own) (hw : Wipes g (own.map (·.2)))
    (hg : ∀ (s : Shared) (H : Hp) (C : Addr) (cl : List (Str × Addr)) (fp : List Addr), PG (X.blk s H scope (compEnvC scope cl C X.env) fp) tg g)
    (hsw : swapsWith (.ListComp elt [⟨tg, iter, [cond], 0⟩] scope pos) (some (.Name y py)) spos.line X.env = pure true)
    (hi : JI M tg iter ρ t fun xs t1 => ∃ Iv : Nat → List PyData → Rs → Prop, Iv 0 [] t1 ∧
      (∀ (i : Nat) (x : PyData) (acc : List PyData) (t' : Rs), xs[i]? = some x → Iv i acc t' → TurnT M scope elt cond g (own.map (·.2)) ρ x t' acc (Iv (i + 1))) ∧ (∀ (acc : List PyData) (t' : Rs), Iv xs.length acc t' → D.nx (ρ.set i (.own acc)) t'))
    (hy : X.N[i]? = some y := by rfl) (hyl : X.env.scope.names.lookup y = some .local := by rfl) (hs : ∀ x, foldedSetIterable iter X.env x = pure x := by intro _; rfl) : JS M (.Assign [.Name y py] (.ListComp elt [⟨tg, iter, [cond], 0⟩] scope pos) spos) ρ t D :=
  js_of (ps_setLc (own := own) (g := g) (tt := TtAll X scope cond) (te := TeAll X scope elt) hc hN hy hyl hsw piT ok hg (fun s H C cl fp => pts_one (ptA s H C cl fp)) (fun s H C cl fp => peA s H C cl fp) hs) fun σ G H S E F =>
    (lc_dl (P := fun acc t' => D.nx (ρ.set i (.own acc)) t') hw fun σ G H S R r => hi σ G H S R fun G' H' J xs t' s wk ⟨Iv, h0, h1, h2⟩ => r G' H' J xs t' s wk ⟨Iv, h0, fun i x acc t' e hI => (h1 i x acc t' e hI).one, h2⟩) σ G H S _ fun G1 H1 l ws xs t1 s1 n g e a p =>
      F.nx _ G1 H1 _ t1 ((S.step s1).setL (S.ne_r n) g e (fresh_of S.st n) a fun j ys _ z => S.fresh n z) s1.gg p
end

/-! ### comprehensions whose element is a function of the item -/
section
variable {X : Cx} {Wo : WO} {M : Md X.K Wo} {ρ : List B} {t : Rs} {elt cond tg iter : Expr} {P : List PyData → Rs → Prop} {pos : Pos} {scope : Scope} {own : List (Str × Nat)} {g : TG} {D : Dk}
/-- what a map's source and element ask -/
def MapOk (M : Md X.K Wo) (scope : Scope) (elt : Expr) (g : TG) (vs : List Nat) (ρ : List B) (t : Rs) (f : PyData → PyData) (xs : List PyData) : Prop :=
  xs.length ≤ 16777216 ∧ ∀ x ∈ xs, DG M g x (wipeB ρ vs) fun ρ2 => JDb M scope elt ρ2 t fun y t3 => y = f x ∧ t3 = t
def FiltOk (M : Md X.K Wo) (scope : Scope) (elt cond : Expr) (g : TG) (vs : List Nat) (ρ : List B) (t : Rs) (c : PyData → Bool) (f : PyData → PyData) (xs : List PyData) : Prop :=
  xs.length ≤ 16777216 ∧ ∀ x ∈ xs, DG M g x (wipeB ρ vs) fun ρ2 => JTb M scope cond ρ2 t fun b t2 => b = c x ∧ t2 = t ∧ (c x = true → JDb M scope elt ρ2 t fun y t3 => y = f x ∧ t3 = t)
theorem MapOk.turns {vs : List Nat} {f : PyData → PyData} {xs : List PyData} (h : MapOk M scope elt g vs ρ t f xs) {N : List PyData → Rs → Prop} (q : N (xs.map f) t) : ∃ Iv : Nat → List PyData → Rs → Prop, Iv 0 [] t ∧
      (∀ (i : Nat) (x : PyData) (acc : List PyData) (t' : Rs), xs[i]? = some x → Iv i acc t' → TurnE M scope elt g vs ρ x t' acc (Iv (i + 1))) ∧ (∀ (acc : List PyData) (t' : Rs), Iv xs.length acc t' → N acc t') := by
  refine ⟨fun i acc t' => acc = (xs.take i).map f ∧ t' = t, ⟨rfl, rfl⟩, fun i x acc t' ex ⟨ea, et⟩ => ?_, fun acc t' ⟨ea, et⟩ => ?_⟩
  · subst ea et
    have hi : i < xs.length := by
      by_cases z : i < xs.length
      · exact z
      · rw [List.getElem?_eq_none (by omega)] at ex
        cases ex
    intro t0 G H σ v S d R r
    refine h.2 x (List.mem_of_getElem? ex) t0 G H σ v S d R fun σ' ρ' S' j => r σ' ρ' S' fun s0 H0 C cl fp => (j s0 H0 C cl fp).imp fun y t3 ⟨e1, e2⟩ => ⟨?_, ?_, e2⟩
    · rw [List.length_map, List.length_take]
      have := h.1
      omega
    · rw [List.take_add_one, ex, e1]
      simp
  · subst ea et
    rw [List.take_length]
    exact q
theorem FiltOk.turns {vs : List Nat} {c : PyData → Bool} {f : PyData → PyData} {xs : List PyData} (h : FiltOk M scope elt cond g vs ρ t c f xs) {N : List PyData → Rs → Prop} (q : N ((xs.filter c).map f) t) : ∃ Iv : Nat → List PyData → Rs → Prop, Iv 0 [] t ∧
      (∀ (i : Nat) (x : PyData) (acc : List PyData) (t' : Rs), xs[i]? = some x → Iv i acc t' → TurnT M scope elt cond g vs ρ x t' acc (Iv (i + 1))) ∧ (∀ (acc : List PyData) (t' : Rs), Iv xs.length acc t' → N acc t') := by
  refine ⟨fun i acc t' => acc = ((xs.take i).filter c).map f ∧ t' = t, ⟨rfl, rfl⟩, fun i x acc t' ex ⟨ea, et⟩ => ?_, fun acc t' ⟨ea, et⟩ => ?_⟩
  · subst ea et
    have hi : i < xs.length := by
      by_cases z : i < xs.length
      · exact z
      · rw [List.getElem?_eq_none (by omega)] at ex
        cases ex
    intro t0 G H σ v S d R r
    refine h.2 x (List.mem_of_getElem? ex) t0 G H σ v S d R fun σ' ρ' S' j => r σ' ρ' S' fun s0 H0 C cl fp => (j s0 H0 C cl fp).imp fun b t2 ⟨e1, e2, e3⟩ => ?_
    subst e2
    refine ⟨fun hb s1 H1 C1 cl1 fp1 => (e3 (by rw [← e1]; exact hb) s1 H1 C1 cl1 fp1).imp fun y t3 ⟨e4, e5⟩ => ⟨?_, ?_, e5⟩, fun hb => ⟨?_, rfl⟩⟩
    · rw [List.length_map]
      have h1 := List.length_filter_le c (xs.take i)
      rw [List.length_take] at h1
      have := h.1
      omega
    · rw [List.take_add_one, ex, e4, List.filter_append, List.map_append]
      have : c x = true := by rw [← e1]; exact hb
      simp [this]
    · rw [List.take_add_one, ex, List.filter_append, List.map_append]
      have : c x = false := by rw [← e1]; exact hb
      simp [this]
  · subst ea et
    rw [List.take_length]
    exact q
theorem jl_map (f : PyData → PyData) (hc : X.calm = true) (hN : X.N.Nodup) (ok : BlkOk X.N X.env.scope scope own) (hw : Wipes g (own.map (·.2)))
    (hg : ∀ (s : Shared) (H : Hp) (C : Addr) (cl : List (Str × Addr)) (fp : List Addr), PG (X.blk s H scope (compEnvC scope cl C X.env) fp) tg g)
    (hi : JI M tg iter ρ t fun xs t1 => MapOk M scope elt g (own.map (·.2)) ρ t1 f xs ∧ P (xs.map f) t1) (hs : ∀ x, foldedSetIterable iter X.env x = pure x := by intro _; rfl) : JL M (.ListComp elt [⟨tg, iter, [], 0⟩] scope pos) ρ t P :=
  jl_comp hc hN ok hw hg (fun σ G H S R r => hi σ G H S R fun G' H' J xs t' s wk ⟨h1, h2⟩ => r G' H' J xs t' s wk (h1.turns h2)) hs
theorem jl_filt (c : PyData → Bool) (f : PyData → PyData) (hc : X.calm = true) (hN : X.N.Nodup) (ok : BlkOk X.N X.env.scope scope own) (hw : Wipes g (own.map (·.2)))
    (hg : ∀ (s : Shared) (H : Hp) (C : Addr) (cl : List (Str × Addr)) (fp : List Addr), PG (X.blk s H scope (compEnvC scope cl C X.env) fp) tg g)
    (hi : JI M tg iter ρ t fun xs t1 => FiltOk M scope elt cond g (own.map (·.2)) ρ t1 c f xs ∧ P ((xs.filter c).map f) t1) (hs : ∀ x, foldedSetIterable iter X.env x = pure x := by intro _; rfl) : JL M (.ListComp elt [⟨tg, iter, [cond], 0⟩] scope pos) ρ t P :=
  jl_compT hc hN ok hw hg (fun σ G H S R r => hi σ G H S R fun G' H' J xs t' s wk ⟨h1, h2⟩ => r G' H' J xs t' s wk (h1.turns h2)) hs
end

/-! ### the lists of slots, changed in place -/
section
variable {X : Cx} {Wo : WO} {M : Md X.K Wo} {ρ : List B} {t : Rs} {e a b : Expr} {P : PyData → Rs → Prop} {pos cpos apos : Pos} {D : Dk} {x : Str} {p : Pos}
theorem own_at {K : PySem.W.Frag} {Wo : WO} {M : Md K Wo} {t : Rs} {G H : Hp} {σ : L2.St} {ρ : List B} {i : Nat} {xs : List PyData} (S : Sat M t G H σ ρ) (e : ρ[i]? = some (.own xs)) : ∃ (l : Addr) (ws : List V), σ[i]? = some (some (.ref l)) ∧ H l = some (.lst ws) ∧ DeAll K G ws xs := by
  obtain ⟨l, ws, e1, _, _, h, _, d⟩ := S.at_ i _ e
  exact ⟨l, ws, e1, h, d⟩
theorem jt_own (i : Nat) {xs : List PyData} {P : Bool → Rs → Prop} (hr : ρ[i]? = some (.own xs)) (q : P (!xs.isEmpty) t) (hN : X.N[i]? = some x := by rfl) (hv : Vis X.env.scope x := by first | exact Or.inl rfl | exact Or.inr (Or.inl rfl) | exact Or.inr (Or.inr rfl))
    (hd : (x == ("__debug__" : Str)) = false := by decide) (hcd : (x == ("__classdict__" : Str)) = false := by decide) : JT M (.Name x p) ρ t P := jt_of (pt_truth (pv i hN hv hd hcd) (by intro _; rfl)) fun σ G H S Q r => by
  obtain ⟨l, ws, e1, h, d⟩ := own_at S hr
  exact ⟨.ref l, e1, _, .inl ⟨ws, .inl (.inl h), empty_eq d⟩, r G H _ t S.ok.refl q⟩
theorem js_append (i : Nat) {xs : List PyData} (hr : ρ[i]? = some (.own xs)) (h : JD M e ρ t fun y t1 => xs.length < 16777216 ∧ D.nx (ρ.set i (.own (xs ++ [y]))) t1)
    (hN : X.N[i]? = some x := by rfl) (hv : Vis X.env.scope x := by first | exact Or.inl rfl | exact Or.inr (Or.inl rfl) | exact Or.inr (Or.inr rfl)) (hd : (x == ("__debug__" : Str)) = false := by decide) (hcd : (x == ("__classdict__" : Str)) = false := by decide)
    (hs : swapsWith (.Call (.Attribute (.Name x p) "append" apos) [e] [] cpos) none pos.line X.env = pure false := by rfl) (h3 : starEach [e] X.env = (false, eval e X.env) :: starEach [] X.env := by rfl)
    (h1 : attributeBase (.Name x p) "append" X.env (eval (.Name x p) X.env) = eval (.Name x p) X.env := by rfl)
    (h2 : ((((backTo cpos (starEach [e] X.env)).all fun x => !x.1) && (backToKw cpos (keywordEach [] X.env)).all fun x => x.1.isSome) && decide (([e].length + ([] : List Keyword).length + if ([] : List Keyword).isEmpty = true then 0 else 1) < 30)) = true := by rfl)
    (h4 : (apos.endLine == cpos.line) = true := by rfl) (h5 : ((backTo cpos (starEach [] X.env)).any fun x => x.1) = false := by rfl) : JS M (.Expr (.Call (.Attribute (.Name x p) "append" apos) [e] [] cpos) pos) ρ t D :=
  js_of (ps_expr (pe_bm PySem.F.plainAttrs_list PySem.F.slot_list_append PySem.F.type_list_append mt_append (pv i hN hv hd hcd) (pa_cons peT pa_nil h3) h1 h2 h4 h3 h5) hs) fun σ G H S E F => by
    obtain ⟨l, ws, e1, h1, d⟩ := own_at S hr
    refine ⟨.ref l, e1, .inl ⟨rfl, ws, .inl (.inl h1)⟩, h σ G H S _ fun G1 H1 v y t1 s1 d1 ⟨hl, p⟩ => ?_⟩
    have S1 := S.step s1
    obtain ⟨l2, ws2, e2, h2, d2⟩ := own_at S1 hr
    rw [e1] at e2
    cases e2
    exact ⟨l, ws2, v, rfl, rfl, h2, line_lt (by rw [d2.length]; exact hl), F.nx σ G1 _ _ t1 (S1.write hr e1 (d2.app (.cons d1 .nil))) s1.gg p⟩
theorem js_extend (i : Nat) {xs : List PyData} (hr : ρ[i]? = some (.own xs)) (h : JD M e ρ t fun y t1 => ∃ ys, y = .list ys ∧ xs.length + ys.length ≤ 16777216 ∧ D.nx (ρ.set i (.own (xs ++ ys))) t1)
    (hN : X.N[i]? = some x := by rfl) (hv : Vis X.env.scope x := by first | exact Or.inl rfl | exact Or.inr (Or.inl rfl) | exact Or.inr (Or.inr rfl)) (hd : (x == ("__debug__" : Str)) = false := by decide) (hcd : (x == ("__classdict__" : Str)) = false := by decide)
    (hs : swapsWith (.Call (.Attribute (.Name x p) "extend" apos) [e] [] cpos) none pos.line X.env = pure false := by rfl) (h3 : starEach [e] X.env = (false, eval e X.env) :: starEach [] X.env := by rfl)
    (h1 : attributeBase (.Name x p) "extend" X.env (eval (.Name x p) X.env) = eval (.Name x p) X.env := by rfl)
    (h2 : ((((backTo cpos (starEach [e] X.env)).all fun x => !x.1) && (backToKw cpos (keywordEach [] X.env)).all fun x => x.1.isSome) && decide (([e].length + ([] : List Keyword).length + if ([] : List Keyword).isEmpty = true then 0 else 1) < 30)) = true := by rfl)
    (h4 : (apos.endLine == cpos.line) = true := by rfl) (h5 : ((backTo cpos (starEach [] X.env)).any fun x => x.1) = false := by rfl) : JS M (.Expr (.Call (.Attribute (.Name x p) "extend" apos) [e] [] cpos) pos) ρ t D :=
  js_of (ps_expr (pe_bm PySem.F.plainAttrs_list PySem.F.slot_list_extend PySem.F.type_list_extend mt_extend (pv i hN hv hd hcd) (pa_cons peT pa_nil h3) h1 h2 h4 h3 h5) hs) fun σ G H S E F => by
    obtain ⟨l, ws, e1, h1, d⟩ := own_at S hr
    refine ⟨.ref l, e1, .inl ⟨rfl, ws, .inl (.inl h1)⟩, h σ G H S _ fun G1 H1 v y t1 s1 d1 ⟨ys, ey, hl, p⟩ => ?_⟩
    subst ey
    have S1 := S.step s1
    obtain ⟨l2, ws2, e2, h2, d2⟩ := own_at S1 hr
    rw [e1] at e2
    cases e2
    obtain ⟨b2, us, rfl, st, du⟩ := d1.lstE
    exact ⟨l, b2, ws2, us, rfl, rfl, h2, S1.ok.sub _ _ st, line_of (by rw [d2.length, du.length]; exact hl), F.nx σ G1 _ _ t1 (S1.write hr e1 (d2.app du)) s1.gg p⟩
/-- target = xs.pop() -/
theorem js_popTo (i : Nat) {tg : Expr} {g : TG} {xs : List PyData} {y : PyData} (hr : ρ[i]? = some (.own (xs ++ [y]))) (hg : PG X tg g) (h : DG M g y (ρ.set i (.own xs)) fun ρ' => D.nx ρ' t)
    (hN : X.N[i]? = some x := by rfl) (hv : Vis X.env.scope x := by first | exact Or.inl rfl | exact Or.inr (Or.inl rfl) | exact Or.inr (Or.inr rfl)) (hd : (x == ("__debug__" : Str)) = false := by decide) (hcd : (x == ("__classdict__" : Str)) = false := by decide)
    (hs : swapsWithSole [tg] (.Call (.Attribute (.Name x p) "pop" apos) [] [] cpos) pos.line X.env = pure false := by rfl) (hw : swappedStores [tg] (.Call (.Attribute (.Name x p) "pop" apos) [] [] cpos) X.env = pure none := by rfl)
    (ha : (assignEach [tg] X.env).map (·.2) = [assign tg X.env] := by rfl)
    (h1 : attributeBase (.Name x p) "pop" X.env (eval (.Name x p) X.env) = eval (.Name x p) X.env := by rfl) (h4 : (apos.endLine == cpos.line) = true := by rfl) : JS M (.Assign [tg] (.Call (.Attribute (.Name x p) "pop" apos) [] [] cpos) pos) ρ t D :=
  js_of (ps_asg (pe_bm0 PySem.F.plainAttrs_list PySem.F.slot_list_pop PySem.F.type_list_pop mt_pop (pv i hN hv hd hcd) h1 h4) hg hs hw ha) fun σ G H S E F => by
    obtain ⟨l, ws, e1, h1, d⟩ := own_at S hr
    have el : ws.length = xs.length + 1 := by rw [d.length, List.length_append]; rfl
    obtain ⟨v, ev, dv⟩ := d.at_ (i := xs.length) (d := y) (by simp)
    refine ⟨.ref l, e1, .inl ⟨rfl, ws, .inl (.inl h1)⟩, l, ws, v, rfl, rfl, h1, by rw [el, Nat.add_sub_cancel]; exact ev, ?_⟩
    have dd : DeAll X.K G ws.dropLast xs := by
      have z := d.take xs.length
      rw [List.take_left] at z
      rw [List.dropLast_eq_take, el, Nat.add_sub_cancel]
      exact z
    exact h t G _ σ v (S.write hr e1 dd) dv _ fun σ' ρ' S' q => F.nx σ' G _ ρ' t S' (Same.refl _) q
/-- xs[i] = e -/
theorem js_setIx (i : Nat) {xs : List PyData} (hr : ρ[i]? = some (.own xs)) (h : JD M e ρ t fun y t1 => JD M b ρ t1 fun z t2 => ∃ j k, z = .int j ∧ ixN xs.length j = some k ∧ D.nx (ρ.set i (.own (xs.set k y))) t2)
    (ha : ∀ v, assign (.Subscript (.Name x p) b apos) X.env v = (do
      let ov ← holding [v] (eval (.Name x p) X.env)
      let iv ← holding [v, ov] (eval b X.env)
      standAt apos
      holding [v, ov, iv] (setItem ov iv v)
      release [v, ov, iv] []) := by intro _; rfl)
    (hN : X.N[i]? = some x := by rfl) (hv : Vis X.env.scope x := by first | exact Or.inl rfl | exact Or.inr (Or.inl rfl) | exact Or.inr (Or.inr rfl)) (hd : (x == ("__debug__" : Str)) = false := by decide) (hcd : (x == ("__classdict__" : Str)) = false := by decide)
    (hs : swapsWithSole [.Subscript (.Name x p) b apos] e pos.line X.env = pure false := by rfl) (hw : swappedStores [.Subscript (.Name x p) b apos] e X.env = pure none := by rfl)
    (h1 : (assignEach [.Subscript (.Name x p) b apos] X.env).map (·.2) = [assign (.Subscript (.Name x p) b apos) X.env] := by rfl) : JS M (.Assign [.Subscript (.Name x p) b apos] e pos) ρ t D :=
  js_of (ps_asg peT (pg_sub (pv i hN hv hd hcd) peT set_list ha) hs hw h1) fun σ G H S E F => h σ G H S _ fun G1 H1 v y t1 s1 d1 h2 => by
    obtain ⟨l, ws, e1, _, _⟩ := own_at S hr
    refine ⟨.ref l, e1, h2 σ G1 H1 (S.step s1) _ fun G2 H2 w z t2 s2 d2 ⟨j, k, ez, hk, p⟩ => ?_⟩
    subst ez
    have S2 := (S.step s1).step s2
    obtain ⟨l2, ws2, e2, h2', dw⟩ := own_at S2 hr
    rw [e1] at e2
    cases e2
    refine ⟨l, ws2, j, k, rfl, d2.intE, h2', by rw [dw.length]; exact hk, F.nx σ G2 _ _ t2 (S2.write hr e1 (dw.set (De.up s2.gg _ _ d1) k)) (s1.gg.trans s2.gg) p⟩
/-- xs.pop(i) as a statement -/
theorem js_popAt (i : Nat) {xs : List PyData} (hr : ρ[i]? = some (.own xs)) (h : JD M e ρ t fun y t1 => ∃ (j : Int) (k : Nat) (z : PyData), y = .int j ∧ -(2 ^ 63) ≤ j ∧ j < 2 ^ 63 ∧ seqIndex? j xs.length = some k ∧ xs[k]? = some z ∧ D.nx (ρ.set i (.own (xs.eraseIdx k))) t1)
    (hN : X.N[i]? = some x := by rfl) (hv : Vis X.env.scope x := by first | exact Or.inl rfl | exact Or.inr (Or.inl rfl) | exact Or.inr (Or.inr rfl)) (hd : (x == ("__debug__" : Str)) = false := by decide) (hcd : (x == ("__classdict__" : Str)) = false := by decide)
    (hs : swapsWith (.Call (.Attribute (.Name x p) "pop" apos) [e] [] cpos) none pos.line X.env = pure false := by rfl) (h3 : starEach [e] X.env = (false, eval e X.env) :: starEach [] X.env := by rfl)
    (h1 : attributeBase (.Name x p) "pop" X.env (eval (.Name x p) X.env) = eval (.Name x p) X.env := by rfl)
    (h2 : ((((backTo cpos (starEach [e] X.env)).all fun x => !x.1) && (backToKw cpos (keywordEach [] X.env)).all fun x => x.1.isSome) && decide (([e].length + ([] : List Keyword).length + if ([] : List Keyword).isEmpty = true then 0 else 1) < 30)) = true := by rfl)
    (h4 : (apos.endLine == cpos.line) = true := by rfl) (h5 : ((backTo cpos (starEach [] X.env)).any fun x => x.1) = false := by rfl) : JS M (.Expr (.Call (.Attribute (.Name x p) "pop" apos) [e] [] cpos) pos) ρ t D :=
  js_of (ps_expr (pe_bm PySem.F.plainAttrs_list PySem.F.slot_list_pop PySem.F.type_list_pop mt_popAt (pv i hN hv hd hcd) (pa_cons peT pa_nil h3) h1 h2 h4 h3 h5) hs) fun σ G H S E F => by
    obtain ⟨l, ws, e1, h1, d⟩ := own_at S hr
    refine ⟨.ref l, e1, .inl ⟨rfl, ws, .inl (.inl h1)⟩, h σ G H S _ fun G1 H1 v y t1 s1 d1 ⟨j, k, z, ey, b1, b2, hk, hz, p⟩ => ?_⟩
    subst ey
    have S1 := S.step s1
    obtain ⟨l2, ws2, e2, h2, d2⟩ := own_at S1 hr
    rw [e1] at e2
    cases e2
    obtain ⟨u, eu, du⟩ := d2.at_ hz
    refine ⟨l, ws2, j, k, u, rfl, by rw [d1.intE], h2, b1, b2, by rw [d2.length]; exact hk, eu, F.nx σ G1 _ _ t1 (S1.write hr e1 ?_) s1.gg p⟩
    rw [List.eraseIdx_eq_take_drop_succ, List.eraseIdx_eq_take_drop_succ]
    exact (d2.take k).app (d2.drop (k + 1))
end
/-! ### a statement and the rest -/
section
variable {X : Cx} {Wo : WO} {M : Md X.K Wo} {ρ : List B} {t : Rs} {e c : Expr} {pos : Pos} {D : Dk} {x : Str} {rest a b : List Stmt}
theorem jss_set (i : Nat) {pos' : Pos} (hN : X.N.Nodup) (h : JD M e ρ t fun y t1 => JSs M rest (ρ.set i (.d y)) t1 D) (hi : X.N[i]? = some x := by rfl) (hx : L2.Loc X.env.scope x := by exact Or.inl rfl) (hs : swapsWith e (some (.Name x pos')) pos.line X.env = pure false := by rfl)
    (hf : X.fn x = true ∨ X.env.scope.names.lookup x = some .local := by first | exact .inl rfl | exact .inr rfl) : JSs M (.Assign [.Name x pos'] e pos :: rest) ρ t D := jss_cons (js_set i hN h hi hx hs hf)
theorem jss_setL (i : Nat) {pos' : Pos} (hN : X.N.Nodup) (h : JL M e ρ t fun ys t1 => JSs M rest (ρ.set i (.own ys)) t1 D) (hi : X.N[i]? = some x := by rfl) (hx : L2.Loc X.env.scope x := by exact Or.inl rfl) (hs : swapsWith e (some (.Name x pos')) pos.line X.env = pure false := by rfl)
    (hf : X.fn x = true ∨ X.env.scope.names.lookup x = some .local := by first | exact .inl rfl | exact .inr rfl) : JSs M (.Assign [.Name x pos'] e pos :: rest) ρ t D := jss_cons (js_setL i hN h hi hx hs hf)
/-- if c: a, where a hands back or goes on, then the rest -/
theorem jss_if (h : JT M c ρ t fun k t1 => (k = true → JSs M a ρ t1 { D with nx := fun ρ' t' => JSs M rest ρ' t' D }) ∧ (k = false → JSs M b ρ t1 { D with nx := fun ρ' t' => JSs M rest ρ' t' D })) : JSs M (.If c a b pos :: rest) ρ t D := jss_cons (js_if h)
/-- if c: a, and nothing otherwise -/
theorem jss_if0 (h : JT M c ρ t fun k t1 => (k = true → JSs M a ρ t1 { D with nx := fun ρ' t' => JSs M rest ρ' t' D }) ∧ (k = false → JSs M rest ρ t1 D)) : JSs M (.If c a [] pos :: rest) ρ t D := jss_cons (js_if (h.imp fun k t1 ⟨h1, h2⟩ => ⟨h1, fun e => jss_nil (h2 e)⟩))
theorem jss_ret (h : JD M e ρ t fun x t1 => D.rt (.d x) t1) : JSs M (.Return (some e) pos :: rest) ρ t D := jss_cons (js_ret h)
theorem jss_retL (h : JL M e ρ t fun x t1 => D.rt (.own x) t1) : JSs M (.Return (some e) pos :: rest) ρ t D := jss_cons (js_retL h)
end
/-! ### guards: which piece of text stands there -/
section
variable {X : Cx} {Wo : WO} {M : Md X.K Wo} {ρ : List B} {t : Rs} {P : PyData → Rs → Prop} {T : Bool → Rs → Prop} {pos : Pos} {D : Dk}
theorem g_name {x : Str} (h : JD M (.Name x pos) ρ t P) : JD M (.Name x pos) ρ t P := h
theorem g_call {f : Expr} {es : List Expr} {ks : List Keyword} (h : JD M (.Call f es ks pos) ρ t P) : JD M (.Call f es ks pos) ρ t P := h
theorem g_sub {a b : Expr} (h : JD M (.Subscript a b pos) ρ t P) : JD M (.Subscript a b pos) ρ t P := h
theorem g_cmp {a : Expr} {os : List CmpOp} {bs : List Expr} (h : JD M (.Compare a os bs pos) ρ t P) : JD M (.Compare a os bs pos) ρ t P := h
theorem g_cmpT {a : Expr} {os : List CmpOp} {bs : List Expr} (h : JT M (.Compare a os bs pos) ρ t T) : JT M (.Compare a os bs pos) ρ t T := h
theorem g_callT {f : Expr} {es : List Expr} {ks : List Keyword} (h : JT M (.Call f es ks pos) ρ t T) : JT M (.Call f es ks pos) ρ t T := h
theorem jt_bop {op : BoolOp} {es : List Expr} (h : JW M (.BoolOp op es pos) ρ t T) : JT M (.BoolOp op es pos) ρ t T := jt_w h
theorem g_args {e : Expr} {es : List Expr} {P : List B → Rs → Prop} (h : JA M (e :: es) ρ t P) : JA M (e :: es) ρ t P := h
end
end Dl
end
section
set_option maxRecDepth 100000
set_option maxHeartbeats 4000000
namespace Dl
open PySem PySem.Spec PyProof.Rows L2

/-! ### a def of the text by its body, over data -/
section
variable {P : Program} {w : World} {K : PySem.W.Frag} {mg : Str → Option Value} {base : Heap}
/-- where a def's body stands -/
abbrev Xo (P : Program) (w : World) (K : PySem.W.Frag) (mg : Str → Option Value) (base : Heap) (N : List Str) (qual : Str) (st : Stmt) (f : Addr) (cdv : Value) (A : Around) (outer : List Env) (s : Shared) (H : Hp) (E : XK) : Cx :=
  (cxOf CX0 P w K mg base N qual (defScope st) f cdv A outer s H E).nox
theorem args_slot {Wo : WO} {M : Md K Wo} {G H : Hp} : ∀ {vs : List V} {bs : List B}, ArgAll M G vs bs → ∀ (i : Nat) (b : B), bs[i]? = some b → Slot M G H ((vs.map some)[i]?) b
  | _, _, .nil, i, b, e => by simp at e
  | _, _, .cons h r, 0, b, e => by
    cases e
    cases h with
    | d h => exact ⟨_, rfl, h⟩
    | rd => rfl
  | _, _, .cons h r, i + 1, b, e => args_slot r i b e
theorem args_own {Wo : WO} {M : Md K Wo} {G : Hp} : ∀ {vs : List V} {bs : List B}, ArgAll M G vs bs → ∀ (i : Nat) (xs : List PyData), bs[i]? ≠ some (.own xs)
  | _, _, .nil, i, b => by simp
  | _, _, .cons h r, 0, b => by
    intro e
    cases e
    cases h
  | _, _, .cons h r, i + 1, b => args_own r i b
theorem sat_start {Wo : WO} {M : Md K Wo} {t : Rs} {n : Nat} {G H : Hp} {vs : List V} {bs : List B} {N : List Str} (k : Ok M t G H) (a : ArgAll M G vs bs) (hn : bs.length = n) : Sat (M.at_ G H) t G H (L2.start N vs) (bs ++ List.replicate (N.length - n) .un) where
  st := ⟨Same.refl G, fun _ _ _ e => e, fun _ _ e => e, k.sub, k.rd⟩
  ok := ⟨k.sub, k.gr, k.rd⟩
  len := by
    unfold L2.start
    rw [List.length_append, List.length_append, List.length_map, List.length_replicate, List.length_replicate, a.length, hn]
  at_ := fun i b e => by
    unfold L2.start
    have hl := a.length
    by_cases hi : i < bs.length
    · rw [List.getElem?_append_left hi] at e
      rw [List.getElem?_append_left (by rw [List.length_map]; omega)]
      have s := args_slot (H := H) a i b e
      cases b with
      | un => trivial
      | rd => exact s
      | d x => exact s
      | own xs => exact absurd e (args_own a i xs)
    · rw [List.getElem?_append_right (by omega), List.getElem?_replicate] at e
      split at e
      · cases e
        trivial
      · cases e
  dis := fun i j xs ys l _ e _ _ _ => by
    exfalso
    by_cases hi : i < bs.length
    · rw [List.getElem?_append_left hi] at e
      exact args_own a i xs e
    · rw [List.getElem?_append_right (by omega), List.getElem?_replicate] at e
      split at e <;> cases e
theorem okD {Wo : WO} {x qual : Str} {st : Stmt} {f : Addr} {fd : FuncData} {N ps : List Str} {k n : Nat} {S : List B → Rs → (B → Rs → Prop) → Prop} (F : Fun K x qual st f fd) (Sc : FnScope N ps (defScope st)) (hn : ps.length = n)
    (body : ∀ (cdv : Value) (A : Around) (outer : List Env) (s : Shared) (H : Hp) (E : XK) (M : Md K Wo) (bs : List B) (t : Rs) (Pt : B → Rs → Prop), Room k (Xo P w K mg base N qual st f cdv A outer s H E).A → bs.length = n → S bs t Pt →
      JSs (X := Xo P w K mg base N qual st f cdv A outer s H E) M (defBody st) (bs ++ List.replicate (N.length - n) .un) t { nx := fun _ t' => Pt (.d .none) t', rt := Pt }) : FnOk P w K mg base CX0 (k + 1) f fd ps (spD K Wo n S) := by
  refine F.ok Sc (fun vs H Q E h => ?_) (fun cdv A outer s H vs Q E hr h => ?_)
  · obtain ⟨M, G, bs, t, Pt, _, a, hl, _⟩ := h
    rw [a.length, hl, hn]
  · obtain ⟨M, G, bs, t, Pt, ok, a, hl, hS, q1, q2⟩ := h
    refine ⟨_, pssT, body cdv A outer s H E (M.at_ G H) bs t Pt hr hl hS (L2.start N vs) G H (sat_start ok a hl) _ ⟨fun σ' G' H' ρ' t' S' _ p => ?_, fun σ' G' H' ρ' t' _ _ p => p.elim, fun σ' G' H' ρ' t' _ _ p => p.elim, fun G' H' t' v x s' d p => ?_, fun G' H' t' l ws xs s' h0 g e d p => ?_⟩⟩
    · exact q1 G' H' .non .none t' ⟨S'.st.gg, S'.st.hh, S'.st.fr, S'.st.sub, S'.st.rd⟩ .non p
    · exact q1 G' H' v x t' ⟨s'.gg, s'.hh, s'.fr, s'.sub, s'.rd⟩ d p
    · exact q2 G' H' l ws xs t' ⟨s'.gg, s'.hh, s'.fr, s'.sub, s'.rd⟩ h0 g e d p
theorem Fun.def_ {Wo : WO} {x qual y : Str} {st : Stmt} {f : Addr} {fd : FuncData} {ps : List Str} {k n : Nat} {S : List B → Rs → (B → Rs → Prop) → Prop} (F : Fun K x qual st f fd) (h : FnOk P w K mg base CX0 k f fd ps (spD K Wo n S)) (hm : mg y = some (.ref f)) (b : Binds K fd ps []) : Def P w K Wo mg base k y n S := ⟨f, fd, ps, h, hm, F.kp, b⟩
theorem Def.imp {Wo : WO} {k n : Nat} {x : Str} {S S' : List B → Rs → (B → Rs → Prop) → Prop} (D : Def P w K Wo mg base k x n S) (h : ∀ bs t Q, S' bs t Q → S bs t Q) : Def P w K Wo mg base k x n S' := by
  obtain ⟨f, fd, ps, F, hm, kp, hb⟩ := D.ex
  exact ⟨f, fd, ps, F.imp fun vs H Q E ⟨M, G, bs, t, Pt, a, b, c, d, e⟩ => ⟨M, G, bs, t, Pt, a, b, c, h _ _ _ d, e⟩, hm, kp, hb⟩
theorem Def.mono {Wo : WO} {k j n : Nat} {x : Str} {S : List B → Rs → (B → Rs → Prop) → Prop} (D : Def P w K Wo mg base k x n S) (h : k ≤ j) : Def P w K Wo mg base j x n S := by
  obtain ⟨f, fd, ps, F, hm, kp, hb⟩ := D.ex
  exact ⟨f, fd, ps, F.mono h, hm, kp, hb⟩
end

/-! ### repr of data, where nothing is being shown -/
section
variable {X : Cx}
def rRepr (K : PySem.W.Frag) : List V → Hp → VK → Prop := fun xs H Q => ∃ v d, xs = [v] ∧ Dp K H v d ∧ d.showable = true ∧ d.hasDict = false ∧ d.depth ≤ 64 ∧ d.shown.length ≤ sizeLine ∧ (∀ i, d = .int i → i.natAbs.log2 < 1920) ∧ Q (.str d.shown) H
theorem cr_repr {k : Nat} (hr : Room k X.A) (hg : X.A.guards = some []) : CallR X (.builtin "repr") (rRepr X.K) := by
  intro pins s σ H xs us Q I r h
  obtain ⟨v, d, rfl, dp, h1, h2, h3, h4, h5, q⟩ := h
  obtain ⟨u, rfl, rv⟩ := vals1 r
  obtain ⟨as, rd⟩ := Dp.reads I d v u dp rv
  have hu := hr.un
  cases dp with
  | non =>
    cases rv
    exact PySem.P.repr_of_none ⟨.str _, H, I.tok _, ⟨_, rfl⟩, q⟩
  | bl b =>
    cases rv
    exact PySem.P.repr_of_bool ⟨.str _, H, I.tok _, ⟨_, rfl⟩, by cases b <;> exact q⟩
  | int i =>
    obtain ⟨t, rfl⟩ := rv
    exact PySem.P.repr_of_int (h5 i rfl) ⟨.str _, H, I.tok _, ⟨_, rfl⟩, q⟩
  | str z =>
    obtain ⟨t, rfl⟩ := rv
    exact PySem.P.repr_of_str ⟨.str _, H, I.tok _, ⟨_, rfl⟩, q⟩ h4
  | lst e f =>
    cases rv
    exact PySem.repr_of_reads' rd h1 (fun z => by rw [h2] at z; cases z) hg (by omega) (fun _ _ e => e) (fun h' u tk hk => ⟨.str _, H, I.kept hk, ⟨_, rfl⟩, q⟩) h4
  | tup e f =>
    cases rv
    exact PySem.repr_of_reads' rd h1 (fun z => by rw [h2] at z; cases z) hg (by omega) (fun _ _ e => e) (fun h' u tk hk => ⟨.str _, H, I.kept hk, ⟨_, rfl⟩, q⟩) h4
end
end Dl
end
section
set_option maxRecDepth 100000
set_option maxHeartbeats 4000000
namespace Dl
open PySem PySem.Spec PyProof.Rows L2

/-! ### the reader [cells, next, rest, draws] -/
def W4 : WO := fun t G o => ∃ c, o = .lst [.ref c, .int t.nxt, .int t.rest, .int t.draws] ∧ G c = some (.lst (t.ns.map V.int))
theorem w4_up {t : Rs} {G G' : Hp} {o : HO} (e : Same G G') (h : W4 t G o) : W4 t G' o := by
  obtain ⟨c, h1, h2⟩ := h
  exact ⟨c, h1, e _ _ h2⟩
def Rs.fld (t : Rs) : Int → Int
  | 1 => t.nxt
  | 2 => t.rest
  | _ => t.draws
def Rs.put (t : Rs) (k v : Int) : Rs := match k with
  | 1 => { t with nxt := v }
  | 2 => { t with rest := v }
  | _ => { t with draws := v }
theorem Sat.rdSet {K : PySem.W.Frag} {Wo : WO} {M : Md K Wo} {t t' : Rs} {G H : Hp} {σ : L2.St} {ρ : List B} {o : HO} (S : Sat M t G H σ ρ) (w : Wo t' G o) : Sat M t' G (upd H M.r o) σ ρ := by
  have sub : Same G (upd H M.r o) := fun b u z => by
    rw [upd_ne (ne_of_none z S.ok.gr)]
    exact S.ok.sub b u z
  refine ⟨⟨S.st.gg, fun b u nb z => ?_, S.st.fr, sub, o, upd_same, w⟩, ⟨sub, S.ok.gr, o, upd_same, w⟩, S.len, fun j b e => ?_, S.dis⟩
  · rw [upd_ne nb]
    exact S.st.hh b u nb z
  · have s := S.at_ j b e
    cases b with
    | un => trivial
    | rd => exact s
    | d x => exact s
    | own xs =>
      obtain ⟨l, vs, e1, n, g, h, h0, d⟩ := s
      refine ⟨l, vs, e1, n, g, ?_, h0, d⟩
      rw [upd_ne n]
      exact h
section
variable {X : Cx} {M : Md X.K W4} {ρ : List B} {t : Rs} {e : Expr} {P : PyData → Rs → Prop} {pos apos p cp : Pos} {D : Dk} {x : Str} {j : Nat} {rest : List Stmt}
theorem jd_rdN (i : Nat) {k : Int} (hk : k = 1 ∨ k = 2 ∨ k = 3) (hr : ρ[i]? = some .rd) (q : P (.int (t.fld k)) t) (hN : X.N[i]? = some x := by rfl) (hv : Vis X.env.scope x := by first | exact Or.inl rfl | exact Or.inr (Or.inl rfl) | exact Or.inr (Or.inr rfl))
    (hd : (x == ("__debug__" : Str)) = false := by decide) (hcd : (x == ("__classdict__" : Str)) = false := by decide) : JD M (.Subscript (.Name x p) (.Constant (.int k) j cp) pos) ρ t P :=
  jd_of (pe_ix ix_list (pv i hN hv hd hcd) pe_int (fun _ _ => rfl)) fun σ G H S Q r => by
    obtain ⟨o, ho, c, eo, hc⟩ := S.ok.rd
    subst eo
    refine ⟨.ref M.r, S.at_ i _ hr, M.r, _, k, .int (t.fld k), rfl, rfl, .inl (.inl ho), ?_, r G H _ _ t S.ok.refl (.int _) q⟩
    rcases hk with rfl | rfl | rfl <;> rfl
theorem jd_rdC (i : Nat) (hr : ρ[i]? = some .rd) (q : P (.list (t.ns.map PyData.int)) t) (hN : X.N[i]? = some x := by rfl) (hv : Vis X.env.scope x := by first | exact Or.inl rfl | exact Or.inr (Or.inl rfl) | exact Or.inr (Or.inr rfl))
    (hd : (x == ("__debug__" : Str)) = false := by decide) (hcd : (x == ("__classdict__" : Str)) = false := by decide) : JD M (.Subscript (.Name x p) (.Constant (.int 0) j cp) pos) ρ t P :=
  jd_of (pe_ix ix_list (pv i hN hv hd hcd) pe_int (fun _ _ => rfl)) fun σ G H S Q r => by
    obtain ⟨o, ho, c, eo, hc⟩ := S.ok.rd
    subst eo
    exact ⟨.ref M.r, S.at_ i _ hr, M.r, _, 0, .ref c, rfl, rfl, .inl (.inl ho), rfl, r G H _ _ t S.ok.refl (.lst hc (DeAll.ofInts _)) q⟩
theorem js_rdSet (i : Nat) {k : Int} (hk : k = 1 ∨ k = 2 ∨ k = 3) (hr : ρ[i]? = some .rd) (h : JD M e ρ t fun y t1 => ∃ v, y = .int v ∧ D.nx ρ (t1.put k v))
    (ha : ∀ v, assign (.Subscript (.Name x p) (.Constant (.int k) j cp) apos) X.env v = (do
      let ov ← holding [v] (eval (.Name x p) X.env)
      let iv ← holding [v, ov] (eval (.Constant (.int k) j cp) X.env)
      standAt apos
      holding [v, ov, iv] (setItem ov iv v)
      release [v, ov, iv] []) := by intro _; rfl)
    (hN : X.N[i]? = some x := by rfl) (hv : Vis X.env.scope x := by first | exact Or.inl rfl | exact Or.inr (Or.inl rfl) | exact Or.inr (Or.inr rfl)) (hd : (x == ("__debug__" : Str)) = false := by decide) (hcd : (x == ("__classdict__" : Str)) = false := by decide)
    (hs : swapsWithSole [.Subscript (.Name x p) (.Constant (.int k) j cp) apos] e pos.line X.env = pure false := by rfl) (hw : swappedStores [.Subscript (.Name x p) (.Constant (.int k) j cp) apos] e X.env = pure none := by rfl)
    (h1 : (assignEach [.Subscript (.Name x p) (.Constant (.int k) j cp) apos] X.env).map (·.2) = [assign (.Subscript (.Name x p) (.Constant (.int k) j cp) apos) X.env] := by rfl) : JS M (.Assign [.Subscript (.Name x p) (.Constant (.int k) j cp) apos] e pos) ρ t D :=
  js_of (ps_asg peT (pg_sub (pv i hN hv hd hcd) pe_int set_list ha) hs hw h1) fun σ G H S E F => h σ G H S _ fun G1 H1 v y t1 s1 d1 ⟨z, ez, q⟩ => by
    subst ez
    have S1 := S.step s1
    obtain ⟨o, ho, c, eo, hc⟩ := S1.ok.rd
    subst eo
    rw [d1.intE]
    have go : ∀ (ws : List V) (n : Nat), ixN 4 k = some n → ([V.ref c, .int t1.nxt, .int t1.rest, .int t1.draws].set n (.int z)) = ws → W4 (t1.put k z) G1 (.lst ws) → gSub (tVar i) (tC (.int k)) rSetL (.int z) σ H1 E.nx := fun ws n e1 e2 w =>
      ⟨.ref M.r, S1.at_ i _ hr, M.r, _, k, n, rfl, rfl, ho, e1, by
        rw [e2]
        exact F.nx σ G1 _ ρ _ (S1.rdSet w) s1.gg q⟩
    rcases hk with rfl | rfl | rfl
    · exact go _ 1 rfl rfl ⟨c, rfl, hc⟩
    · exact go _ 2 rfl rfl ⟨c, rfl, hc⟩
    · exact go _ 3 rfl rfl ⟨c, rfl, hc⟩
theorem jss_rdSet (i : Nat) {k : Int} (hk : k = 1 ∨ k = 2 ∨ k = 3) (hr : ρ[i]? = some .rd) (h : JD M e ρ t fun y t1 => ∃ v, y = .int v ∧ JSs M rest ρ (t1.put k v) D)
    (ha : ∀ v, assign (.Subscript (.Name x p) (.Constant (.int k) j cp) apos) X.env v = (do
      let ov ← holding [v] (eval (.Name x p) X.env)
      let iv ← holding [v, ov] (eval (.Constant (.int k) j cp) X.env)
      standAt apos
      holding [v, ov, iv] (setItem ov iv v)
      release [v, ov, iv] []) := by intro _; rfl)
    (hN : X.N[i]? = some x := by rfl) (hv : Vis X.env.scope x := by first | exact Or.inl rfl | exact Or.inr (Or.inl rfl) | exact Or.inr (Or.inr rfl)) (hd : (x == ("__debug__" : Str)) = false := by decide) (hcd : (x == ("__classdict__" : Str)) = false := by decide)
    (hs : swapsWithSole [.Subscript (.Name x p) (.Constant (.int k) j cp) apos] e pos.line X.env = pure false := by rfl) (hw : swappedStores [.Subscript (.Name x p) (.Constant (.int k) j cp) apos] e X.env = pure none := by rfl)
    (h1 : (assignEach [.Subscript (.Name x p) (.Constant (.int k) j cp) apos] X.env).map (·.2) = [assign (.Subscript (.Name x p) (.Constant (.int k) j cp) apos) X.env] := by rfl) : JSs M (.Assign [.Subscript (.Name x p) (.Constant (.int k) j cp) apos] e pos :: rest) ρ t D := jss_cons (js_rdSet i hk hr h ha hN hv hd hcd hs hw h1)
end
/-! ### data that may be compared -/
theorem lay_ints : ∀ ns : List Int, PyData.canLayAll0 (ns.map PyData.int) = true
  | [] => by simp [PyData.canLayAll0]
  | n :: ns => by simp [PyData.canLayAll0, PyData.canLay0, lay_ints ns]
theorem dep_ints : ∀ ns : List Int, PyData.depthAll (ns.map PyData.int) ≤ 1
  | [] => by simp [PyData.depthAll]
  | n :: ns => by
    have h := dep_ints ns
    simp only [List.map_cons, PyData.depthAll, PyData.depth]
    omega
theorem shaped_of {d : PyData} (h : d.canLay0 = true) (h2 : d.depth ≤ 64) : SeqAt.shaped d = true := by
  show (d.canLay0 && decide (d.depth ≤ 64)) = true
  rw [h, decide_eq_true h2]
  rfl
theorem shaped_ints (ns : List Int) : SeqAt.shaped (.list (ns.map PyData.int)) = true := by
  refine shaped_of (by simp only [PyData.canLay0]; exact lay_ints ns) ?_
  have h := dep_ints ns
  simp only [PyData.depth]
  omega
theorem shaped_intsT (ns : List Int) : SeqAt.shaped (.tuple (ns.map PyData.int)) = true := by
  refine shaped_of (by simp only [PyData.canLay0]; exact lay_ints ns) ?_
  have h := dep_ints ns
  simp only [PyData.depth]
  omega
end Dl
end
section
set_option maxRecDepth 100000
set_option maxHeartbeats 4000000
namespace Dl
open PySem PySem.Spec PyProof.Rows L2

/-! ### plain data and its size -/
mutual
def Fin : PyData → Prop
  | .none => True
  | .bool _ => True
  | .int i => i.natAbs < 2 ^ 256
  | .str y => ∀ c ∈ y.cps.toList, c < 128
  | .list xs => FinA xs
  | .tuple xs => FinA xs
  | .dict _ => False
def FinA : List PyData → Prop
  | [] => True
  | x :: xs => Fin x ∧ FinA xs
end
mutual
def sz : PyData → Nat
  | .none => 1
  | .bool _ => 1
  | .int _ => 1
  | .str y => 1 + y.length
  | .list xs => 1 + szA xs
  | .tuple xs => 1 + szA xs
  | .dict _ => 1
def szA : List PyData → Nat
  | [] => 0
  | x :: xs => sz x + szA xs
end
theorem FinA_iff : ∀ {xs : List PyData}, FinA xs ↔ ∀ x ∈ xs, Fin x
  | [] => by simp [FinA]
  | x :: xs => by
    rw [FinA, FinA_iff]
    simp
theorem FinA_app {xs ys : List PyData} : FinA (xs ++ ys) ↔ FinA xs ∧ FinA ys := by
  rw [FinA_iff, FinA_iff, FinA_iff]
  constructor
  · intro h
    exact ⟨fun x hx => h x (List.mem_append_left _ hx), fun x hx => h x (List.mem_append_right _ hx)⟩
  · rintro ⟨h1, h2⟩ x hx
    rcases List.mem_append.mp hx with h | h
    · exact h1 x h
    · exact h2 x h
theorem szA_app : ∀ (xs ys : List PyData), szA (xs ++ ys) = szA xs + szA ys
  | [], ys => by simp [szA]
  | x :: xs, ys => by
    rw [List.cons_append, szA, szA, szA_app xs ys]
    omega
theorem sz_pos (x : PyData) : 1 ≤ sz x := by
  cases x <;> simp only [sz] <;> omega
theorem len_szA : ∀ xs : List PyData, xs.length ≤ szA xs
  | [] => Nat.zero_le _
  | x :: xs => by
    have h1 := len_szA xs
    have h2 := sz_pos x
    rw [List.length_cons, szA]
    omega
theorem szA_mem : ∀ {xs : List PyData} {x : PyData}, x ∈ xs → sz x ≤ szA xs
  | [], _, h => absurd h List.not_mem_nil
  | y :: xs, x, h => by
    rw [szA]
    rcases List.mem_cons.mp h with rfl | h
    · omega
    · have := szA_mem h
      omega
theorem dep_mem : ∀ {xs : List PyData} {x : PyData}, x ∈ xs → x.depth ≤ PyData.depthAll xs
  | [], _, h => absurd h List.not_mem_nil
  | y :: xs, x, h => by
    simp only [PyData.depthAll]
    rcases List.mem_cons.mp h with rfl | h
    · omega
    · have := dep_mem h
      omega
theorem depA_le : ∀ {xs : List PyData} {n : Nat}, (∀ x ∈ xs, x.depth ≤ n) → PyData.depthAll xs ≤ n
  | [], n, _ => by simp only [PyData.depthAll]; omega
  | y :: xs, n, h => by
    simp only [PyData.depthAll]
    have h1 := h y List.mem_cons_self
    have h2 := depA_le fun x hx => h x (List.mem_cons_of_mem _ hx)
    omega
mutual
theorem Fin.lay : ∀ x : PyData, Fin x → x.canLay0 = true
  | .none, _ => by simp only [PyData.canLay0]
  | .bool _, _ => by simp only [PyData.canLay0]
  | .int _, _ => by simp only [PyData.canLay0]
  | .str y, h => by
    simp only [PyData.canLay0, PyData.strOk, Array.all_eq_true]
    intro i hi
    have := h y.cps[i] (by simp)
    exact decide_eq_true (by omega)
  | .list xs, h => by
    simp only [PyData.canLay0]
    exact FinA.lay xs h
  | .tuple xs, h => by
    simp only [PyData.canLay0]
    exact FinA.lay xs h
  | .dict _, h => h.elim
theorem FinA.lay : ∀ xs : List PyData, FinA xs → PyData.canLayAll0 xs = true
  | [], _ => by simp only [PyData.canLayAll0]
  | x :: xs, h => by
    simp only [PyData.canLayAll0]
    rw [Fin.lay x h.1, FinA.lay xs h.2]
    rfl
end
mutual
theorem Fin.show_ : ∀ x : PyData, Fin x → x.showable = true
  | .none, _ => by simp only [PyData.showable]
  | .bool _, _ => by simp only [PyData.showable]
  | .int i, h => by
    simp only [PyData.showable]
    have h' : i.natAbs < 2 ^ 256 := h
    refine decide_eq_true ?_
    by_cases e : i.natAbs = 0
    · rw [e]
      decide
    · have := (Nat.log2_lt e).mpr h'
      omega
  | .str y, _ => by simp only [PyData.showable]
  | .list xs, h => by
    simp only [PyData.showable]
    exact FinA.show_ xs h
  | .tuple xs, h => by
    simp only [PyData.showable]
    exact FinA.show_ xs h
  | .dict _, h => h.elim
theorem FinA.show_ : ∀ xs : List PyData, FinA xs → PyData.showableAll xs = true
  | [], _ => by simp only [PyData.showableAll]
  | x :: xs, h => by
    simp only [PyData.showableAll]
    rw [Fin.show_ x h.1, FinA.show_ xs h.2]
    rfl
end
theorem len_app (a b : Str) : (a ++ b).length = a.length + b.length := strLen_append a b
theorem listText_len (ts : List Str) : (listText ts).length ≤ piled ts + 2 := by
  cases ts with
  | nil => decide
  | cons t r =>
    have h := textFrom_length_pos r 1 (("[" : Str) ++ (if (0 : Nat) > 0 then ", " else "" : String) ++ t) (Nat.succ_pos 0)
    have e : ((("[" : Str) ++ (if (0 : Nat) > 0 then ", " else "" : String) ++ t)).length = 1 + t.length := by
      rw [len_app, len_app]
      rfl
    have hX : (listText (t :: r)).length = (textFrom 1 (("[" : Str) ++ (if (0 : Nat) > 0 then ", " else "" : String) ++ t) r).length + 1 := by
      show (textFrom 0 "[" (t :: r) ++ "]").length = _
      rw [len_app]
      rfl
    rw [hX, h, e, piled_cons]
    omega
theorem tupleText_len (ts : List Str) : (tupleText ts).length ≤ piled ts + 3 := by
  unfold tupleText
  rw [len_app, len_app]
  have e1 : ((("(" : String) : Str)).length = 1 := rfl
  have e3 : (((if ts.length == 1 then ",)" else ")" : String) : Str)).length ≤ 2 := by split <;> decide
  rw [e1]
  by_cases h : ts = []
  · subst h
    decide
  · have := join_length_add ts h
    omega
mutual
theorem Fin.len : ∀ x : PyData, Fin x → x.shown.length + 2 ≤ 300 * sz x
  | .none, _ => by
    simp only [PyData.shown, sz]
    decide
  | .bool b, _ => by
    simp only [PyData.shown, sz]
    cases b <;> decide
  | .int i, h => by
    simp only [PyData.shown, sz]
    have h' : i.natAbs < 2 ^ 256 := h
    have hl : i.natAbs.log2 < 256 := by
      by_cases e : i.natAbs = 0
      · rw [e]
        decide
      · exact (Nat.log2_lt e).mpr h'
    have := int_text_length_le (a := i) (by decide : 0 < 256) hl
    show (Str.ofString (toString i)).length + 2 ≤ _
    rw [PySem.ofString_length]
    omega
  | .str y, h => by
    simp only [PyData.shown, sz]
    have := StrLaws.reprText_len y fun c hc => Nat.lt_of_lt_of_le (h c hc) (by decide)
    omega
  | .list xs, h => by
    simp only [PyData.shown, sz]
    have h1 := listText_len (PyData.shownAll xs)
    have h2 := FinA.len xs h
    omega
  | .tuple xs, h => by
    simp only [PyData.shown, sz]
    have h1 := tupleText_len (PyData.shownAll xs)
    have h2 := FinA.len xs h
    omega
  | .dict _, h => h.elim
theorem FinA.len : ∀ xs : List PyData, FinA xs → piled (PyData.shownAll xs) ≤ 300 * szA xs
  | [], _ => by
    simp only [PyData.shownAll, szA]
    decide
  | x :: xs, h => by
    simp only [PyData.shownAll, szA]
    rw [piled_cons]
    have h1 := Fin.len x h.1
    have h2 := FinA.len xs h.2
    omega
end
end Dl
end
section
set_option maxRecDepth 100000
set_option maxHeartbeats 4000000
namespace Dl
open PySem PySem.Spec PyProof.Rows L2

/-! ### names of the module -/
section
variable {X : Cx} {Wo : WO} {M : Md X.K Wo} {ρ : List B} {t : Rs} {P : PyData → Rs → Prop} {a b e : Expr} {es : List Expr} {pos p : Pos} {x : Str}
theorem jd_glob {u : Value} {v : V} {d : PyData} (hm : X.mg x = some u) (hv : RelV v u) (hd : ∀ G, De X.K G v d) (q : P d t) (hg : Gl X x := by rfl) (h : (x == Str.ofString "__debug__") = false := by decide) : JD M (.Name x p) ρ t P :=
  jd_of (pe_glob hg hm hv h) fun σ G H S Q r => r G H v d t S.ok.refl (hd G) q
/-- d[k], d a written dict with text keys -/
theorem jd_kdict {y : Str} {p2 : Pos} {ad : Addr} (hm : X.mg y = some (.ref ad)) (h : JD M b ρ t fun z t1 => ∃ k v, z = .str k ∧ KDct X.K X.w ad k (.int v) ∧ P (.int v) t1)
    (hg : Gl X y := by rfl) (h2 : (y == Str.ofString "__debug__") = false := by decide) (hp : PlainIx b := by intro _ _; rfl) : JD M (.Subscript (.Name y p2) b pos) ρ t P :=
  jd_of (pe_ix ix_kdict (pe_glob (v := .ref ad) hg hm rfl h2) peT hp) fun σ G H S Q r => h σ G H S _ fun G1 H1 v z t1 s1 d1 ⟨k, i, ez, kd, q⟩ => by
    subst ez
    exact ⟨ad, k, .int i, rfl, d1.strE, kd, r G1 H1 _ _ t1 s1 (.int i) q⟩

/-! ### x in t, t a tuple of data -/
theorem op_inU (hu : X.A.units + 65 < cLine) : OpR X (compareOp .In) (rInU X.K false) := by
  intro pins s σ H x y v u Q I rx ry h
  obtain ⟨d, ds, hd, he, sd, se, q⟩ := h
  obtain ⟨as, r1⟩ := Dp.reads I d x v hd rx
  obtain ⟨bs, r2⟩ := Dp.reads I (.tuple ds) y u he ry
  have lay : PyData.canLayAll0 ds = true := by
    have z := SeqAt.canLay_of_shaped se
    simpa only [PyData.canLay0] using z
  have dd : d.depth ≤ 64 := by
    have z : (d.canLay0 && decide (d.depth ≤ 64)) = true := sd
    rw [Bool.and_eq_true] at z
    exact of_decide_eq_true z.2
  exact SeqAt.in_tuple_reads r2 r1 lay (SeqAt.canLay_of_shaped sd) (by omega) ⟨.bl _, H, I, rfl, q⟩
theorem op_niU (hu : X.A.units + 65 < cLine) : OpR X (compareOp .NotIn) (rInU X.K true) := by
  intro pins s σ H x y v u Q I rx ry h
  obtain ⟨d, ds, hd, he, sd, se, q⟩ := h
  obtain ⟨as, r1⟩ := Dp.reads I d x v hd rx
  obtain ⟨bs, r2⟩ := Dp.reads I (.tuple ds) y u he ry
  have lay : PyData.canLayAll0 ds = true := by
    have z := SeqAt.canLay_of_shaped se
    simpa only [PyData.canLay0] using z
  have dd : d.depth ≤ 64 := by
    have z : (d.canLay0 && decide (d.depth ≤ 64)) = true := sd
    rw [Bool.and_eq_true] at z
    exact of_decide_eq_true z.2
  exact SeqAt.notIn_tuple_reads r2 r1 lay (SeqAt.canLay_of_shaped sd) (by omega) ⟨.bl _, H, I, rfl, q⟩
theorem bn_inU {K : PySem.W.Frag} {M : Md K Wo} {neg : Bool} {d : PyData} {ds : List PyData} (h1 : SeqAt.shaped d = true) (h2 : SeqAt.shaped (.tuple ds) = true) (p : P (.bool (if neg then !ds.any fun z => PyData.eqv z d else ds.any fun z => PyData.eqv z d)) t) : Bn M (rInU K neg) d (.tuple ds) t P :=
  fun G H v w k hv hw Q q => ⟨d, ds, De.dp _ _ (De.up k.sub _ _ hv), De.dp _ _ (De.up k.sub _ _ hw), h1, h2, keep k q (.bl _) p⟩
theorem jd_inU {k : Nat} (hr : Room k X.A) (h : JD M a ρ t fun x t1 => JD M b ρ t1 fun y t2 => ∃ ys, y = .tuple ys ∧ SeqAt.shaped x = true ∧ SeqAt.shaped (.tuple ys) = true ∧ P (.bool (ys.any fun z => PyData.eqv z x)) t2) (hm : behindInMarks .In b = false := by rfl) : JD M (.Compare a [.In] [b] pos) ρ t P :=
  jd_cmp (op_inU (by have := hr.un; omega)) hm (h.imp fun x _ h1 => h1.imp fun y _ ⟨ys, e, c, d, q⟩ => by
    subst e
    exact bn_inU c d q)
theorem jt_inU {P : Bool → Rs → Prop} {k : Nat} (hr : Room k X.A) (h : JD M a ρ t fun x t1 => JD M b ρ t1 fun y t2 => ∃ ys, y = .tuple ys ∧ SeqAt.shaped x = true ∧ SeqAt.shaped (.tuple ys) = true ∧ P (ys.any fun z => PyData.eqv z x) t2) (hm : behindInMarks .In b = false := by rfl) : JT M (.Compare a [.In] [b] pos) ρ t P :=
  jt_cmp (op_inU (by have := hr.un; omega)) hm (h.imp fun x _ h1 => h1.imp fun y _ ⟨ys, e, c, d, q⟩ => by
    subst e
    exact bn_inU c d ⟨_, rfl, q⟩)
theorem jd_niU {k : Nat} (hr : Room k X.A) (h : JD M a ρ t fun x t1 => JD M b ρ t1 fun y t2 => ∃ ys, y = .tuple ys ∧ SeqAt.shaped x = true ∧ SeqAt.shaped (.tuple ys) = true ∧ P (.bool (!ys.any fun z => PyData.eqv z x)) t2) (hm : behindInMarks .NotIn b = false := by rfl) : JD M (.Compare a [.NotIn] [b] pos) ρ t P :=
  jd_cmp (op_niU (by have := hr.un; omega)) hm (h.imp fun x _ h1 => h1.imp fun y _ ⟨ys, e, c, d, q⟩ => by
    subst e
    exact bn_inU c d q)
theorem jt_niU {P : Bool → Rs → Prop} {k : Nat} (hr : Room k X.A) (h : JD M a ρ t fun x t1 => JD M b ρ t1 fun y t2 => ∃ ys, y = .tuple ys ∧ SeqAt.shaped x = true ∧ SeqAt.shaped (.tuple ys) = true ∧ P (!ys.any fun z => PyData.eqv z x) t2) (hm : behindInMarks .NotIn b = false := by rfl) : JT M (.Compare a [.NotIn] [b] pos) ρ t P :=
  jt_cmp (op_niU (by have := hr.un; omega)) hm (h.imp fun x _ h1 => h1.imp fun y _ ⟨ys, e, c, d, q⟩ => by
    subst e
    exact bn_inU c d ⟨_, rfl, q⟩)
/-- one sign in a text -/
theorem jd_inS (h : JD M a ρ t fun x t1 => ∃ c, x = .str ⟨#[c]⟩ ∧ JD M b ρ t1 fun y t2 => ∃ z, y = .str z ∧ P (.bool (decide (c ∈ z.cps.toList))) t2) (hm : behindInMarks .In b = false := by rfl) : JD M (.Compare a [.In] [b] pos) ρ t P :=
  jd_cmp op_in_sign hm (h.imp fun x _ ⟨c, e, h1⟩ => h1.imp fun y _ ⟨z, e2, q⟩ => by
    subst e e2
    exact fun G H v w k hv hw Q r => ⟨c, z, hv.strE, hw.strE, keep k r (.bl _) q⟩)
/-- t < u, tuples of ints -/
theorem jd_ltT {k : Nat} (hr : Room k X.A) (h : JD M a ρ t fun x t1 => ∃ ns : List Int, x = .tuple (ns.map PyData.int) ∧ JD M b ρ t1 fun y t2 => ∃ ms : List Int, y = .tuple (ms.map PyData.int) ∧ P (.bool (HT.lexLt ns ms)) t2) : JD M (.Compare a [.Lt] [b] pos) ρ t P :=
  jd_cmp (op_ltT hr.units0) (nomark _) (h.imp fun x _ ⟨ns, e, h1⟩ => h1.imp fun y _ ⟨ms, e2, q⟩ => by
    subst e e2
    intro G H v w k hv hw Q r
    obtain ⟨a1, vs, rfl, st, da⟩ := hv.tupE
    obtain ⟨a2, ws, rfl, st2, da2⟩ := hw.tupE
    rw [da.ints] at st
    rw [da2.ints] at st2
    exact ⟨a1, a2, ns, ms, rfl, rfl, sqt_up k.sub st, sqt_up k.sub st2, keep k r (.bl _) q⟩)

/-! ### a star in a display -/
theorem ja_star {st : Pos} {P : List B → Rs → Prop} (h : JD M e ρ t fun x t1 => ∃ xs, (x = .tuple xs ∨ x = .list xs) ∧ JA M es ρ t1 fun bs t2 => P (xs.map B.d ++ bs) t2)
    (hs : starEach (.Starred e st :: es) X.env = (true, eval e X.env) :: starEach es X.env := by rfl) : JA M (.Starred e st :: es) ρ t P :=
  ja_of (StX.pa_star peT paT hs) fun σ G H S Q q => h σ G H S _ fun G1 H1 v x t1 s1 d1 ⟨xs, ex, h1⟩ => by
    have args : ∀ {G2 : Hp} {vs : List V} {xs : List PyData}, DeAll X.K G2 vs xs → ∀ {ws : List V} {bs : List B}, ArgAll M G2 ws bs → ArgAll M G2 (vs ++ ws) (xs.map B.d ++ bs) := by
      intro G2 vs xs da ws bs r
      induction xs generalizing vs with
      | nil =>
        cases da
        exact r
      | cons y ys ih =>
        cases da with
        | cons d da => exact .cons (.d d) (ih da)
    rcases ex with e1 | e1
    · subst e1
      obtain ⟨a1, vs, rfl, st, da⟩ := d1.tupE
      exact ⟨a1, vs, rfl, .inl (sqt_up (S.step s1).ok.sub st), h1 σ G1 H1 (S.step s1) _ fun G2 H2 ws bs t2 s2 ar p => q G2 H2 _ _ t2 (s1.trans s2) (args (DeAll.up s2.gg _ _ da) ar) p⟩
    · subst e1
      obtain ⟨a1, vs, rfl, st, da⟩ := d1.lstE
      exact ⟨a1, vs, rfl, .inr (.inl (.inl ((S.step s1).ok.sub _ _ st))), h1 σ G1 H1 (S.step s1) _ fun G2 H2 ws bs t2 s2 ar p => q G2 H2 _ _ t2 (s1.trans s2) (args (DeAll.up s2.gg _ _ da) ar) p⟩
end
end Dl
end
section
set_option maxRecDepth 100000
set_option maxHeartbeats 4000000
namespace Dl
open PySem PySem.Spec PyProof.Rows L2

/-! ### {'a': 'b', ..}.get(k), the dict written on the spot -/
def cPairs (kvs : List (Str × Str)) : List (TE × TE) := kvs.map fun p => (tC (.str p.1), tC (.str p.2))
theorem tPairs_c {σ : L2.St} {H : Hp} : ∀ (kvs : List (Str × Str)) (Q : List (V × V) → Hp → Prop), Q (kvs.map fun p => (.str p.1, .str p.2)) H → tPairs (cPairs kvs) σ H Q
  | [], Q, h => h
  | p :: r, Q, h => tPairs_c r (fun ps H' => Q ((.str p.1, .str p.2) :: ps) H') h
def getS (kvs : List (Str × Str)) (s : Str) : Option Str := (kvs.find? fun p => decide (p.1 = s)).map (·.2)
def optD : Option Str → PyData
  | some s => .str s
  | none => .none
section
variable {X : Cx} {Wo : WO} {M : Md X.K Wo} {ρ : List B} {t : Rs} {P : PyData → Rs → Prop} {d e : Expr} {cpos apos : Pos}
theorem jd_dget {k : Nat} (kvs : List (Str × Str)) (hr : Room k X.A) (hd : PE X d (tDisp (cPairs kvs))) (hn : kvs.length ≤ 15) (hm : mergeK [] (kvs.map fun p => (Sum.inr p.1, V.str p.2)) = kvs.map fun p => (Sum.inr p.1, V.str p.2))
    (h : JD M e ρ t fun y t1 => ∃ s, y = .str s ∧ P (optD (getS kvs s)) t1) (m : M1 X d "get" apos e cpos) : JD M (.Call (.Attribute d "get" apos) [e] [] cpos) ρ t P :=
  jd_of (pe_dget1 (by have := hr.un; omega) hd peT m) fun σ G H S Q q => fun p hp => by
    refine tPairs_c kvs _ ⟨upd_same, kvs.map fun p => (Sum.inr p.1, V.str p.2), ?_, by rw [List.length_map]; exact hn, ?_⟩
    · rw [List.map_map]
      rfl
    · rw [hm]
      have k0 := S.ok
      have s1 := k0.layO (o := .dK []) hp
      have eU : upd (upd H p (.dK [])) p (.dK (kvs.map fun p => (Sum.inr p.1, V.str p.2))) = upd H p (.dK (kvs.map fun p => (Sum.inr p.1, V.str p.2))) := by
        funext b
        by_cases hb : b = p
        · subst hb
          rw [upd_same, upd_same]
        · rw [upd_ne hb, upd_ne hb, upd_ne hb]
      rw [eU]
      have s2 := k0.layO (o := .dK (kvs.map fun p => (Sum.inr p.1, V.str p.2))) hp
      refine ⟨p, rfl, .inl ⟨_, .inl upd_same⟩, h σ G _ (S.step s2) _ fun G3 H3 v y t3 s3 d3 ⟨s, ey, q3⟩ => ?_⟩
      subst ey
      have hpr : p ≠ M.r := S.ne_r hp
      have h3 : H3 p = some (.dK (kvs.map fun p => (Sum.inr p.1, V.str p.2))) := s3.hh p _ hpr upd_same
      rw [d3.strE]
      refine ⟨_, DGet.k (k := Sum.inr s) h3, ?_⟩
      have e1 : valV (kvs.map fun p => ((Sum.inr p.1 : Key), V.str p.2)) (Sum.inr s) = (getS kvs s).map V.str := by
        unfold valV getS
        rw [List.find?_map]
        simp only [Function.comp_def, Option.map_map]
        congr 1
        congr 1
        funext x
        by_cases hx : x.1 = s
        · rw [decide_eq_true hx, decide_eq_true (by rw [hx])]
        · rw [decide_eq_false hx, decide_eq_false (fun z => hx (Sum.inr.inj z))]
      rw [e1]
      cases eg : getS kvs s with
      | none =>
        rw [eg] at q3
        exact q G3 H3 .non .none t3 (s2.trans s3) .non q3
      | some z =>
        rw [eg] at q3
        exact q G3 H3 (.str z) (.str z) t3 (s2.trans s3) (.str z) q3
/-- a chain of comparisons of texts as a test -/
theorem jt_chainS {P : Bool → Rs → Prop} {a b c : Expr} {pos : Pos} {op op' : CmpOp} {g g' : Str → Str → Bool} {r r' : R2} (ho : OpR X (compareOp op) r) (ho' : OpR X (compareOp op') r') (hr : ∀ i j H (Q : VK), Q (.bl (g i j)) H → r (.str i) (.str j) H Q) (hr' : ∀ i j H (Q : VK), Q (.bl (g' i j)) H → r' (.str i) (.str j) H Q)
    (h : JD M a ρ t fun x t1 => ∃ i, x = .str i ∧ JD M b ρ t1 fun y t2 => ∃ j, y = .str j ∧ (g i j = false → P false t2) ∧ (g i j = true → JD M c ρ t2 fun z t3 => ∃ k, z = .str k ∧ P (g' j k) t3)) (hm : lastMarks [op, op'] [b, c] = false := by rfl) : JT M (.Compare a [op, op'] [b, c] pos) ρ t P :=
  jt_of (pt_chain ho ho' peT peT peT hm) fun σ G H S Q q => h σ G H S _ fun G1 H1 v x t1 s1 d1 ⟨i, e1, h1⟩ => h1 σ G1 H1 (S.step s1) _ fun G2 H2 w y t2 s2 d2 ⟨j, e2, hf, ht⟩ => by
    subst e1 e2
    rw [d1.strE, d2.strE]
    refine hr i j _ _ ⟨g i j, rfl, ?_⟩
    cases hg : g i j with
    | true =>
      refine iteT (ht hg σ G2 H2 ((S.step s1).step s2) _ fun G3 H3 u z t3 s3 d3 ⟨k, e3, p⟩ => ?_)
      subst e3
      rw [d3.strE]
      exact hr' j k _ _ ⟨_, rfl, q G3 H3 _ t3 ((s1.trans s2).trans s3) p⟩
    | false => exact iteF ⟨_, rfl, q G2 H2 _ t2 (s1.trans s2) (hf hg)⟩
end
end Dl
end
section
set_option maxRecDepth 100000
set_option maxHeartbeats 4000000
namespace Dl
open PySem PySem.Spec PyProof.Rows L2
/-- t <= u, tuples of ints: u < t is not so -/
theorem lexAt_le : ∀ (k i : Nat) (ns ms : List Int), k = min (ns.length - i) (ms.length - i) → i ≤ ns.length → i ≤ ms.length →
    Ob.lexAt (fun j => decide (ns.getD j 0 = ms.getD j 0)) (fun j => decide (ns.getD j 0 ≤ ms.getD j 0)) (decide (ns.length ≤ ms.length)) i k = !HT.lexLt (ms.drop i) (ns.drop i)
  | 0, i, ns, ms, e, h1, h2 => by
    rw [Ob.lexAt_zero]
    by_cases h : ns.length = i
    · rw [List.drop_of_length_le (l := ns) (by omega), decide_eq_true (show ns.length ≤ ms.length by omega)]
      cases ms.drop i with
      | nil => rfl
      | cons y ys => rfl
    · have h3 : ms.length = i := by omega
      rw [List.drop_of_length_le (l := ms) (by omega), decide_eq_false (show ¬ ns.length ≤ ms.length by omega)]
      have : (ns.drop i).length ≠ 0 := by rw [List.length_drop]; omega
      cases hd : ns.drop i with
      | nil => rw [hd] at this; exact absurd rfl this
      | cons y ys => rfl
  | k + 1, i, ns, ms, e, h1, h2 => by
    have l1 : i < ns.length := by omega
    have l2 : i < ms.length := by omega
    rw [Ob.lexAt_succ, List.drop_eq_getElem_cons l1, List.drop_eq_getElem_cons l2, HT.lexLt_cons, lexAt_le k (i + 1) ns ms (by omega) (by omega) (by omega)]
    have g1 : ns.getD i 0 = ns[i] := by simp [List.getD, List.getElem?_eq_getElem l1]
    have g2 : ms.getD i 0 = ms[i] := by simp [List.getD, List.getElem?_eq_getElem l2]
    rw [g1, g2]
    by_cases h : ns[i] = ms[i]
    · rw [decide_eq_true h, if_pos rfl, if_pos h.symm]
    · rw [decide_eq_false h, if_neg (by decide), if_neg (fun z => h z.symm)]
      by_cases hl : ns[i] ≤ ms[i]
      · rw [decide_eq_true hl, decide_eq_false (by omega)]
        rfl
      · rw [decide_eq_false hl, decide_eq_true (by omega)]
        rfl
section
variable {X : Cx} {Wo : WO} {M : Md X.K Wo} {ρ : List B} {t : Rs} {a b : Expr} {pos : Pos}
theorem jd_leT {k : Nat} {P : PyData → Rs → Prop} (hr : Room k X.A) (h : JD M a ρ t fun x t1 => ∃ ns : List Int, x = .tuple (ns.map PyData.int) ∧ JD M b ρ t1 fun y t2 => ∃ ms : List Int, y = .tuple (ms.map PyData.int) ∧ P (.bool (!HT.lexLt ms ns)) t2) : JD M (.Compare a [.LtE] [b] pos) ρ t P :=
  jd_cmp (op_leT hr.units0) (nomark _) (h.imp fun x _ ⟨ns, e, h1⟩ => h1.imp fun y _ ⟨ms, e2, q⟩ => by
    subst e e2
    intro G H v w k hv hw Q r
    obtain ⟨a1, vs, rfl, st, da⟩ := hv.tupE
    obtain ⟨a2, ws, rfl, st2, da2⟩ := hw.tupE
    rw [da.ints] at st
    rw [da2.ints] at st2
    refine ⟨a1, a2, ns, ms, rfl, rfl, sqt_up k.sub st, sqt_up k.sub st2, ?_⟩
    rw [lexAt_le _ 0 ns ms (by simp) (Nat.zero_le _) (Nat.zero_le _)]
    exact keep k r (.bl _) q)
theorem jt_imp {e : Expr} {P P' : Bool → Rs → Prop} (h : JT M e ρ t P) (i : ∀ x t', P x t' → P' x t') : JT M e ρ t P' := DT.imp h i
theorem jd_imp {e : Expr} {P P' : PyData → Rs → Prop} (h : JD M e ρ t P) (i : ∀ x t', P x t' → P' x t') : JD M e ρ t P' := h.imp i
theorem jt_leT {k : Nat} {P : Bool → Rs → Prop} (hr : Room k X.A) (h : JD M a ρ t fun x t1 => ∃ ns : List Int, x = .tuple (ns.map PyData.int) ∧ JD M b ρ t1 fun y t2 => ∃ ms : List Int, y = .tuple (ms.map PyData.int) ∧ P (!HT.lexLt ms ns) t2) : JT M (.Compare a [.LtE] [b] pos) ρ t P :=
  jt_cmp (op_leT hr.units0) (nomark _) (h.imp fun x _ ⟨ns, e, h1⟩ => h1.imp fun y _ ⟨ms, e2, q⟩ => by
    subst e e2
    intro G H v w k hv hw Q r
    obtain ⟨a1, vs, rfl, st, da⟩ := hv.tupE
    obtain ⟨a2, ws, rfl, st2, da2⟩ := hw.tupE
    rw [da.ints] at st
    rw [da2.ints] at st2
    refine ⟨a1, a2, ns, ms, rfl, rfl, sqt_up k.sub st, sqt_up k.sub st2, ?_⟩
    rw [lexAt_le _ 0 ns ms (by simp) (Nat.zero_le _) (Nat.zero_le _)]
    exact keep k r (.bl _) ⟨_, rfl, q⟩)
end
end Dl
end
section
set_option maxRecDepth 100000
set_option maxHeartbeats 4000000
namespace Dl
open PySem PySem.Spec PyProof.Rows L2
section
variable {X : Cx} {Wo : WO} {M : Md X.K Wo} {ρ : List B} {t : Rs} {e a b : Expr} {P : PyData → Rs → Prop} {pos cpos apos p : Pos} {D : Dk} {x : Str}
theorem op_add_bi : OpR X (binaryOp .Add) (fun x y H Q => ∃ k j, x = .bl k ∧ y = .int j ∧ Q (.int ((if k = true then (1 : Int) else 0) + j)) H) := by
  intro pins s σ H x y v u Q I rx ry h
  obtain ⟨k, j, rfl, rfl, q⟩ := h
  obtain ⟨t, rfl⟩ := ry
  cases rx
  exact PySem.IntBool.add_bool_int ⟨.int _, H, I.tok _, ⟨_, rfl⟩, q⟩
/-- True + i -/
theorem jd_addB (h : JD M a ρ t fun x t1 => ∃ k, x = .bool k ∧ JD M b ρ t1 fun y t2 => ∃ j, y = .int j ∧ P (.int ((if k = true then (1 : Int) else 0) + j)) t2) : JD M (.BinOp a .Add b pos) ρ t P := jd_bin op_add_bi (h.imp fun _ _ ⟨i, e, h1⟩ => h1.imp fun _ _ ⟨j, f, q⟩ => by
  subst e f
  intro G H v w k hv hw Q r
  cases hv
  exact ⟨_, _, rfl, hw.intE, keep k r (.int _) q⟩)
/-- own[i] -/
theorem jd_ixO (i : Nat) {xs : List PyData} (hr : ρ[i]? = some (.own xs)) (h : JD M b ρ t fun y t2 => ∃ j z, y = .int j ∧ atI xs j = some z ∧ P z t2) (hp : PlainIx b := by intro _ _; rfl)
    (hN : X.N[i]? = some x := by rfl) (hv : Vis X.env.scope x := by first | exact Or.inl rfl | exact Or.inr (Or.inl rfl) | exact Or.inr (Or.inr rfl)) (hd : (x == ("__debug__" : Str)) = false := by decide) (hcd : (x == ("__classdict__" : Str)) = false := by decide) : JD M (.Subscript (.Name x p) b pos) ρ t P :=
  jd_of (pe_ix ix_list (pv i hN hv hd hcd) peT hp) fun σ G H S Q q => by
    obtain ⟨l, ws, e1, _, _⟩ := own_at S hr
    refine ⟨.ref l, e1, h σ G H S _ fun G1 H1 v y t1 s1 d1 ⟨j, z, ey, hz, p1⟩ => ?_⟩
    subst ey
    have S1 := S.step s1
    obtain ⟨l2, ws2, e2, h2, d2⟩ := own_at S1 hr
    rw [e1] at e2
    cases e2
    obtain ⟨u, eu, du⟩ := d2.atI hz
    exact ⟨l, ws2, j, u, rfl, d1.intE, .inl (.inl h2), eu, q G1 H1 u z t1 s1 du p1⟩
/-- len(own) -/
theorem jd_lenO (i : Nat) {xs : List PyData} {q : Pos} (hr : ρ[i]? = some (.own xs)) (hm : X.mg "len" = none) (hx : xs.length ≤ 16777216) (h : P (.int xs.length) t) (hg : Gl X (Str.ofString "len") := by rfl)
    (hN : X.N[i]? = some x := by rfl) (hv : Vis X.env.scope x := by first | exact Or.inl rfl | exact Or.inr (Or.inl rfl) | exact Or.inr (Or.inr rfl)) (hd : (x == ("__debug__" : Str)) = false := by decide) (hcd : (x == ("__classdict__" : Str)) = false := by decide)
    (h3 : starEach [.Name x p] X.env = (false, eval (.Name x p) X.env) :: starEach [] X.env := by rfl) : JD M (.Call (.Name (Str.ofString "len") q) [.Name x p] [] pos) ρ t P :=
  jd_of (pe_callB call_len hg hm PySem.boot_len (pa_cons (pv i hN hv hd hcd) pa_nil h3) (by decide) (by decide) h3 rfl) fun σ G H S Q r => by
    obtain ⟨l, ws, e1, h1, d⟩ := own_at S hr
    refine ⟨.ref l, e1, .ref l, xs.length, rfl, ?_, r G H _ _ t S.ok.refl (.int _) h⟩
    exact .inl ⟨ws, .inl (.inl h1), d.length.symm⟩
/-- own.insert(i, y) -/
theorem js_insert (i : Nat) {xs : List PyData} (hr : ρ[i]? = some (.own xs)) (h : JD M a ρ t fun y t1 => ∃ j : Nat, y = .int j ∧ j < 2 ^ 62 ∧ JD M b ρ t1 fun z t2 => xs.length < 16777216 ∧ D.nx (ρ.set i (.own (xs.take j ++ [z] ++ xs.drop j))) t2)
    (hN : X.N[i]? = some x := by rfl) (hv : Vis X.env.scope x := by first | exact Or.inl rfl | exact Or.inr (Or.inl rfl) | exact Or.inr (Or.inr rfl)) (hd : (x == ("__debug__" : Str)) = false := by decide) (hcd : (x == ("__classdict__" : Str)) = false := by decide)
    (hs : swapsWith (.Call (.Attribute (.Name x p) "insert" apos) [a, b] [] cpos) none pos.line X.env = pure false := by rfl) (h3 : starEach [a, b] X.env = (false, eval a X.env) :: starEach [b] X.env := by rfl) (h6 : starEach [b] X.env = (false, eval b X.env) :: starEach [] X.env := by rfl)
    (h1 : attributeBase (.Name x p) "insert" X.env (eval (.Name x p) X.env) = eval (.Name x p) X.env := by rfl)
    (h2 : ((((backTo cpos (starEach [a, b] X.env)).all fun x => !x.1) && (backToKw cpos (keywordEach [] X.env)).all fun x => x.1.isSome) && decide (([a, b].length + ([] : List Keyword).length + if ([] : List Keyword).isEmpty = true then 0 else 1) < 30)) = true := by rfl)
    (h4 : (apos.endLine == cpos.line) = true := by rfl) (h5 : ((backTo cpos (starEach [b] X.env)).any fun x => x.1) = false := by rfl) : JS M (.Expr (.Call (.Attribute (.Name x p) "insert" apos) [a, b] [] cpos) pos) ρ t D :=
  js_of (ps_expr (pe_bm PySem.F.plainAttrs_list PySem.F.slot_list_insert PySem.F.type_list_insert mt_insert (pv i hN hv hd hcd) (pa_cons peT (pa_cons peT pa_nil h6) h3) h1 h2 h4 h3 h5) hs) fun σ G H S E F => by
    obtain ⟨l, ws, e1, h1, d⟩ := own_at S hr
    refine ⟨.ref l, e1, .inl ⟨rfl, ws, .inl (.inl h1)⟩, h σ G H S _ fun G1 H1 v y t1 s1 d1 ⟨j, ey, hj, h'⟩ => h' σ G1 H1 (S.step s1) _ fun G2 H2 w z t2 s2 d2 ⟨hl, p⟩ => ?_⟩
    subst ey
    have S2 := (S.step s1).step s2
    obtain ⟨l2, ws2, e2, h2, dw⟩ := own_at S2 hr
    rw [e1] at e2
    cases e2
    refine ⟨l, ws2, j, w, rfl, by rw [d1.intE], h2, ?_, by omega, by omega, F.nx σ G2 _ _ t2 (S2.write hr e1 ?_) (s1.gg.trans s2.gg) p⟩
    · exact line_lt (by rw [dw.length]; exact hl)
    · exact ((dw.take j).app (.cons d2 .nil)).app (dw.drop j)
/-- a statement, by what holds behind it -/
theorem js_imp {st : Stmt} {Pn : List B → Rs → Prop} (h : JS M st ρ t { D with nx := Pn }) (i : ∀ ρ' t', Pn ρ' t' → D.nx ρ' t') : JS M st ρ t D := fun σ G H S E F =>
  h σ G H S E ⟨fun σ' G' H' ρ' t' S' m z => F.nx σ' G' H' ρ' t' S' m (i _ _ z), F.bk, F.ct, F.rt, F.rtL⟩
theorem jss_cut {st : Stmt} {rest : List Stmt} (Pn : List B → Rs → Prop) (h : JS M st ρ t { D with nx := Pn }) (i : ∀ ρ' t', Pn ρ' t' → JSs M rest ρ' t' D) : JSs M (st :: rest) ρ t D := jss_cons (js_imp h i)
end
end Dl
end
section
set_option maxRecDepth 100000
set_option maxHeartbeats 4000000
namespace Dl
open PySem PySem.Spec PyProof.Rows L2
/-! ### the parts of a display, read forward -/
theorem ds_nil {R : List PyData → Prop} (h : R []) : ∃ ds, ([] : List B) = ds.map B.d ∧ R ds := ⟨[], rfl, h⟩
theorem ds_cons {x : PyData} {bs : List B} {R : List PyData → Prop} (h : ∃ ds, bs = ds.map B.d ∧ R (x :: ds)) : ∃ ds, B.d x :: bs = ds.map B.d ∧ R ds := by
  obtain ⟨ds, e, r⟩ := h
  exact ⟨x :: ds, by rw [e]; rfl, r⟩
/-! ### t[::-1] of a tuple -/
section
variable {prog : Program} {w : World} {A : Around} {E : Value → Shared → Prop} {s : Shared}
theorem back_applied {sl : Addr} {vs : Value} {n : Nat} {Q : Int × Int × Nat → Shared → Prop} (hs : s.heap.IsSliceOf sl .none .none vs) (pv : IsPart vs (some (-1))) (h : Q ((n : Int) - 1, -1, n) s) : wpAny (model prog w) A (Builtin.Slice.sliceApplied (.ref sl) (pure (n : Int))) Q E s := by
  have hs2 := hs
  obtain ⟨ob, e1, e2, e3⟩ := hs2
  unfold Builtin.Slice.sliceApplied Builtin.Slice.sliceFields
  refine wpAny_bind (wpAny_bind (wpAny_field e1 e3 (x := .none) rfl (wpAny_bind (wpAny_field e1 e3 (x := .none) rfl (wpAny_bind (wpAny_field e1 e3 (x := vs) rfl (wpAny_pure ?_)))))))
  refine wpAny_bind (HT.slicePart_ pv ?_)
  show wpAny _ _ (if ((-1 : Int) == 0) = true then _ else _) _ _ s
  rw [if_neg (by decide)]
  refine wpAny_bind (slicePart_none (wpAny_bind (slicePart_none (wpAny_bind (wpAny_pure ?_)))))
  show wpAny _ _ (match Builtin.Slice.sliceAdjust none none (-1) (n : Int) with | (lo, hi) => pure (lo, (-1 : Int), Builtin.Slice.slicePlaces lo hi (-1))) _ _ s
  have ea : Builtin.Slice.sliceAdjust none none (-1) (n : Int) = ((n : Int) - 1, -1) := rfl
  rw [ea]
  show wpAny _ _ (pure ((n : Int) - 1, (-1 : Int), Builtin.Slice.slicePlaces ((n : Int) - 1) (-1) (-1))) _ _ s
  have ep : Builtin.Slice.slicePlaces ((n : Int) - 1) (-1) (-1) = n := by
    unfold Builtin.Slice.slicePlaces
    rw [if_neg (by decide)]
    by_cases h0 : n = 0
    · subst h0
      rfl
    · rw [if_pos (by omega)]
      have : ((n : Int) - 1 - -1 - 1) / (- -1) + 1 = (n : Int) := by
        rw [show (- -1 : Int) = 1 by decide, Int.ediv_one]
        omega
      rw [this]
      rfl
  rw [ep]
  exact wpAny_pure h
theorem fm_congr {α β : Type} {f g : α → Option β} : ∀ {l : List α}, (∀ x ∈ l, f x = g x) → l.filterMap f = l.filterMap g
  | [], _ => rfl
  | x :: l, h => by
    rw [List.filterMap_cons, List.filterMap_cons, h x List.mem_cons_self, fm_congr fun y hy => h y (List.mem_cons_of_mem _ hy)]
theorem back_pick (xs : Array Value) : ((List.range xs.size).filterMap fun (m : Nat) => xs[(((xs.size : Int) - 1) + (m : Int) * (-1)).toNat]?).toArray = xs.toList.reverse.toArray := by
  congr 1
  refine List.ext_getElem? fun i => ?_
  have e : ((List.range xs.size).filterMap fun (m : Nat) => xs[(((xs.size : Int) - 1) + (m : Int) * (-1)).toNat]?) = (List.range xs.size).map fun m => xs.toList.getD (xs.size - 1 - m) .none := by
    rw [← List.filterMap_eq_map]
    refine fm_congr fun m hm => ?_
    have hm' := List.mem_range.mp hm
    have e1 : (((xs.size : Int) - 1) + (m : Int) * (-1)).toNat = xs.size - 1 - m := by omega
    rw [e1]
    have h1 : xs.size - 1 - m < xs.size := by omega
    rw [Array.getElem?_eq_getElem h1]
    simp [List.getD, Function.comp, h1]
  rw [e, List.getElem?_map]
  by_cases hi : i < xs.size
  · rw [List.getElem?_range hi, List.getElem?_reverse (by simpa using hi)]
    simp [List.getD, show xs.size - 1 - i < xs.size by omega]
  · rw [List.getElem?_eq_none (by simp; omega), List.getElem?_eq_none (by simp; omega)]
    rfl
theorem back_get {t sl : Addr} {vs : Value} {items : Array Value} {Q : Value → Shared → Prop} (ht : IsTup s.heap t items) (hs : s.heap.IsSliceOf sl .none .none vs) (pv : IsPart vs (some (-1))) (hz : items.size ≤ sizeLine)
    (h : Q (.ref s.heap.objs.size) { s with heap := s.heap.push { cls := .type "tuple", data := .seq items.toList.reverse.toArray } }) : wpAny (model prog w) A (getItem (.ref t) (.ref sl)) Q E s := by
  have fit : sizeOk (.seq items.toList.reverse.toArray) := by
    show items.toList.reverse.toArray.size ≤ sizeLine
    rw [List.size_toArray, List.length_reverse, Array.length_toList]
    exact hz
  have ty : s.TypeIs (.ref sl) "slice" := let ⟨o, a, b, _⟩ := hs; ⟨o, a, b⟩
  unfold getItem
  try with_reducible refine wpAny_holding ?_
  first | refine wpAny_bind (wpAny_pure ?_) | skip
  refine wpAny_bind (wpAny_sequenceKey ht.typeIs (by decide) ?_)
  refine wpAny_bind (wpAny_callSpecial?_slot (name := "__getitem__") ht.typeIs PyProof.Rows.slot_tuple_getitem (wpAny_call_entry PyProof.Rows.slot_tuple_getitem ht.typeIs entry_tuple_getitem ?_ (args_tuple_getitem _ _)))
  show wpAny _ _ (Builtin.Tuple.tupleItemsOf (.ref t) >>= _) _ _ s
  refine wpAny_bind (tupleItemsOf_ ht (wpAny_bind (wpAny_typeOf ty ?_)))
  rw [if_pos (by decide)]
  refine wpAny_bind (back_applied hs pv ?_)
  show wpAny _ _ (if (((items.size : Int) - 1) == 0 && (-1 : Int) == 1 && items.size == items.size) = true then _ else _) _ _ s
  have no : ¬ ((((items.size : Int) - 1) == 0 && (-1 : Int) == 1 && items.size == items.size) = true) := fun z => by
    rw [Bool.and_eq_true, Bool.and_eq_true] at z
    exact absurd z.1.2 (by decide)
  rw [if_neg no, back_pick]
  exact wpAny_bind (m := Builtin.Tuple.tupleExact _) (wpAny_newObj_type (wpAny_pure ⟨_, rfl, wpAny_pure h⟩) fit)
end
section
variable {X : Cx}
def tBackT (K : PySem.W.Frag) (te : TE) : TE := fun σ H Q => te σ H fun x H1 => ∃ a xs, x = .ref a ∧ SqT K H1 a xs ∧ ∀ p, H1 p = none → Q (.ref p) (upd H1 p (.tup xs.reverse))
theorem pe_backT {e : Expr} {te : TE} {k : Nat} {p1 p2 p3 pos : Pos} (he : PE X e te) : PE X (.Subscript e (.Slice none none (some (.UnaryOp .USub (.Constant (.int 1) k p1) p2)) p3) pos) (tBackT X.K te) := ⟨fun pins s σ H Q I h => by
  refine Subscript_ (thn (he.run pins s σ H _ I h) fun v s1 ⟨x, H1, I1, r1, a, xs, ex, hx, q⟩ => ?_)
  subst ex
  cases r1
  have step : PO X (some (.UnaryOp .USub (.Constant (.int 1) k p1) p2)) (tPart (tUn (rU fun i => .int (-i)) (tC (.int 1)))) := po_some (pe_un un_neg pe_int)
  refine wpAny_Slice (thn (po_none.run pins s1 σ H1 (fun o H2 => o = none ∧ H2 = H1) I1 ⟨rfl, rfl⟩) fun vl s2 ⟨l, H2, I2, pl, el, e2⟩ => ?_)
  subst el e2
  refine thn (po_none.run pins s2 σ H2 (fun o H3 => o = none ∧ H3 = H2) I2 ⟨rfl, rfl⟩) fun vu s3 ⟨u, H3, I3, pu, eu, e3⟩ => ?_
  subst eu e3
  refine thn (step.run pins s3 σ H3 (fun o H4 => o = some (-1) ∧ H4 = H3) I3 ⟨1, rfl, -1, rfl, rfl, rfl⟩) fun vs s4 ⟨o, H4, I4, ps, eo, e4⟩ => ?_
  subst eo e4
  cases pl
  cases pu
  have J : Inv X pins σ H4 { s4 with heap := s4.heap.push { cls := .type "slice", data := .fields #[.none, .none, vs] } } := I4.kept (t' := s4.toks) fun b ob z => Heap.get?_push_of_some _ z
  obtain ⟨its, r, tu, hz⟩ := J.tuple hx
  show wpAny (model X.prog X.w) X.A (subscriptTail e (.Slice none none (some (.UnaryOp .USub (.Constant (.int 1) k p1) p2)) p3) (.ref a) (.ref s4.heap.objs.size)) (EP X pins σ Q) X.xe { s4 with heap := s4.heap.push { cls := .type "slice", data := .fields #[.none, .none, vs] } }
  refine tail_any (ops := [.ref a, .ref s4.heap.objs.size]) tu.typeIs (PyProof.Rows.slot_tuple_getitem.lookup) ?_ (by with_unfolding_all rfl)
  have hlen := r.length
  refine back_get tu (Heap.IsSliceOf.new _ .none .none vs) ps (by rw [List.size_toArray]; omega) ?_
  refine ⟨.ref _, _, J.laid (t' := s4.toks) (o := .tup xs.reverse) (fun b ob z => Heap.get?_push_of_some _ z) (Nat.le_refl _) ?_, rfl, q _ (J.hok.fresh (Nat.le_refl _))⟩
  exact ⟨by rw [List.length_reverse]; exact hz, its.reverse, r.reverse, _, Heap.get?_push_size _ rfl, rfl, _, rfl⟩⟩
section
variable {Wo : WO} {M : Md X.K Wo} {ρ : List B} {t : Rs} {a b : Expr} {P : PyData → Rs → Prop} {pos : Pos}
theorem jd_revT {k : Nat} {p1 p3 p4 : Pos} (h : JD M a ρ t fun x t1 => ∃ xs, x = .tuple xs ∧ P (.tuple xs.reverse) t1) : JD M (.Subscript a (.Slice none none (some (.UnaryOp .USub (.Constant (.int 1) k p1) p3)) p4) pos) ρ t P :=
  jd_of (pe_backT peT) fun σ G H S Q q => h σ G H S _ fun G1 H1 v x t1 s1 d1 ⟨xs, e, p⟩ => by
    subst e
    have k := (S.step s1).ok
    obtain ⟨a1, vs, rfl, st, da⟩ := d1.tupE
    refine ⟨a1, vs, rfl, sqt_up k.sub st, fun n1 hn => ?_⟩
    have s4 := k.lay (o := .tup vs.reverse) hn
    exact q _ _ _ _ t1 (s1.trans s4) (.tup (.inl (.inl upd_same)) (DeAll.up s4.gg _ _ da.rev)) p
/-- text * int -/
def rMulS : R2 := fun x y H Q => ∃ z n, x = .str z ∧ y = .int n ∧ MulOk z n ∧ Q (.str (Txt.mul z n)) H
theorem op_mulS : OpR X (binaryOp .Mult) rMulS := by
  intro pins s σ H x y v u Q I rx ry h
  obtain ⟨z, n, rfl, rfl, ok, q⟩ := h
  obtain ⟨t, rfl⟩ := rx
  obtain ⟨t', rfl⟩ := ry
  exact SB.mul ok fun t2 k => ⟨.str _, H, I.tok _, ⟨_, rfl⟩, q⟩
theorem jd_mulS (h : JD M a ρ t fun x t1 => ∃ z, x = .str z ∧ JD M b ρ t1 fun y t2 => ∃ n, y = .int n ∧ MulOk z n ∧ P (.str (Txt.mul z n)) t2) : JD M (.BinOp a .Mult b pos) ρ t P := jd_bin op_mulS (h.imp fun _ _ ⟨i, e, h1⟩ => h1.imp fun _ _ ⟨j, f, m, q⟩ => by
  subst e f
  intro G H v w k hv hw Q r
  exact ⟨i, j, hv.strE, hw.intE, m, keep k r (.str _) q⟩)
end
end
end Dl
end
section
set_option maxRecDepth 100000
set_option maxHeartbeats 4000000
namespace Dl
open PySem PySem.Spec PyProof.Rows L2
/-! ### a def that is called where nothing is being shown: repr of lists is known there -/
/-- what a def promises at callers that show nothing -/
structure FnG (P : Program) (w : World) (K : PySem.W.Frag) (mg : Str → Option Value) (base : Heap) (k : Nat) (f : Addr) (fd : FuncData) (ps : List Str) (sp : Sp) : Prop where
  run : ∀ (A : Around) (out : List Env) (s0 : Shared) (G : Hp) (ar : Args) (xs : List Value) (ys : List V) (Qf : VK) (Ef : XK), A.guards = some [] → Room k A → Env0 P w K mg base A out s0 G →
    BindsTo s0 fd ar (ps.zip xs) → Vals ys xs → sp ys G Qf Ef → codeAny (model P w) A (.call (.ref f) ar) (CR CX0 out P w G s0 Qf Ef) s0
section
variable {P : Program} {w : World} {K : PySem.W.Frag} {mg : Str → Option Value} {base : Heap}
theorem fnG_of {x qual : Str} {st : Stmt} {f : Addr} {fd : FuncData} {N ps : List Str} {k : Nat} {sp : Sp} (F : Fun K x qual st f fd) (Sc : FnScope N ps (defScope st)) (len : ∀ ys G Qf Ef, sp ys G Qf Ef → ys.length = ps.length)
    (body : ∀ (cdv : Value) (A : Around) (out : List Env) (s0 : Shared) (G : Hp) (ys : List V) (Qf : VK) (Ef : XK), A.guards = some [] → Room k (A.deeper (envOfC qual (defScope st) s0.heap.objs.size f cdv)) → sp ys G Qf Ef →
      ∃ t, PSs (Xo P w K mg base N qual st f cdv A out s0 G Ef) (defBody st) t ∧ t { nx := fun _ G' => Qf .non G', rt := Qf } (L2.start N ys) G) : FnG P w K mg base (k + 1) f fd ps sp := by
  obtain ⟨oc, od, kV, doc, pm, an, cdv, ct, osl, rfl, lk, hcd⟩ := F.ex
  refine ⟨fun A out s0 G ar xs ys Qf Ef hg hr env bd rv hsp => ?_⟩
  have same := len _ _ _ _ hsp
  have inK : K.In s0.heap := env.mod.kin.keeps fun b o z => (env.bs b o z).1
  have free : s0.heap.NoLimit := env.mod.nolimit.keeps fun b o z => (env.bs b o z).1
  have place : ∀ y ∈ ps.zip xs, (defScope st).names.lookup y.1 = some .local ∨ ((defScope st).names.lookup y.1 = some .cell ∧ ((cellsFrom (s0.heap.objs.size + 1) (defScope st).names []).lookup y.1).isSome = true) := fun y hy => by
    obtain ⟨n, v⟩ := y
    rcases Sc.par n (List.of_mem_zip hy).1 with z | z
    · exact .inl z
    · exact .inr ⟨z, PySem.W.cellsFrom_some _ _ _ (.inl z)⟩
  refine codeAny_call_function hr.depth (inK _ _ lk) rfl Sc.co Sc.gen rfl (PySem.W.codeRec_of inK hcd) (bd _ _ _ _ (wpAny_newFunctionEnv_cells Sc.kind place fun env1 he s1 x1 => ?_))
  subst he
  refine ⟨free.keeps x1.toInCall.keep, codeAny_func ?_⟩
  obtain ⟨t, ht, hq⟩ := body cdv A out s0 G ys Qf Ef hg (hr.deeper _) hsp
  have J := inv_start (CX := CX0) (E := Ef) Sc hr.hd env same rv x1
  refine wpAny_mono (ht.nox.run [] s1 (L2.start N ys) G _ J hq) (fun fl s2 hs => ?_) fun e s2 hs => hs
  cases fl with
  | ret u =>
    obtain ⟨v, σ1, G1, J1, r1, q1⟩ := hs
    exact ⟨v, G1, J1.os, J1.bare, J1.base, J1.hok, r1, q1⟩
  | next =>
    obtain ⟨σ1, G1, J1, q1⟩ := hs
    exact ⟨V.non, G1, J1.os, J1.bare, J1.base, J1.hok, rfl, q1⟩
  | brk =>
    obtain ⟨_, _, _, q1⟩ := hs
    exact q1.elim
  | cont =>
    obtain ⟨_, _, _, q1⟩ := hs
    exact q1.elim
theorem law_callG {mb : Str → Option Value} {k : Nat} {fa c : Addr} {fd : FuncData} {x : Str} {sp : Sp} {s1 : Shared} {cells : List Value} {ns : List Int}
    (inK : K.In s1.heap) (hm : s1.heap.Ns mainGlobals mg) (hb : s1.heap.Ns builtinsNs mb) (hbb : ∀ x : Str, x ≠ "__name__" → mb x = bootBuiltins x) (free : s1.heap.NoLimit) (hg : s1.gens = #[])
    (hc : s1.heap.get? c = some { cls := .type "list", data := .seq cells.toArray }) (hi : IntsAre cells ns) (hl : ns.length ≤ sizeLine) (hr : Room k callerA)
    (F : ∀ low : Heap, K.In low → low.Ns mainGlobals mg → FnG P w K mg low k fa fd [x] sp) (bd : ∀ (s : Shared) (u : Value), BindsTo s fd ⟨[u], []⟩ [(x, u)])
    (hsp : ∀ H : Hp, Only H → SqL K H c (ns.map V.int) → sp [.ref c] H (fun v _ => v = .bl true) fun _ _ _ => False) :
    codeAny (model P w) callerA (.call (.ref fa) ⟨[.ref c], []⟩) (fun r s' => r = .ok (.ret (.bool true)) ∧ OldK s1.heap s'.heap ∧ s'.os = s1.os ∧ AllBare s'.gens) s1 := by
  have rel := vals_ints hi
  have same := hi.length
  have main : ∀ G : Hp, Only G → SqL K G c (ns.map V.int) → HOk P w G s1.heap → (∀ b, G b ≠ none → b = c) → (G c ≠ none → K.lookup c = none) →
      codeAny (model P w) callerA (.call (.ref fa) ⟨[.ref c], []⟩) (fun r s' => r = .ok (.ret (.bool true)) ∧ OldK s1.heap s'.heap ∧ s'.os = s1.os ∧ AllBare s'.gens) s1 := by
    intro G only sq hok just notK
    have untracked : ∀ {b : Addr} {o : Obj} {es : Array DictEntry} {ep : Nat}, s1.heap.get? b = some o → o.data = .dict es ep → G b = none := fun {b o es ep} e d => by
      by_cases z : G b = none
      · exact z
      · obtain rfl := just b z
        rw [hc] at e
        obtain rfl := Option.some.inj e
        exact absurd d (by intro z2; cases (show Data.seq cells.toArray _ = Data.dict es ep from z2))
    have low : ∀ {b : Addr} {m : Str → Option Value}, s1.heap.Ns b m → (hidT s1.heap G).Ns b m := fun {b m} z => by
      obtain ⟨o, es, ep, e, d, r⟩ := z
      exact ⟨o, es, ep, hidT_get e (untracked e d), d, r⟩
    have lowK : K.In (hidT s1.heap G) := fun b o e => hidT_get (inK b o e) (by
      by_cases z : G b = none
      · exact z
      · obtain rfl := just b z
        rw [notK z] at e
        cases e)
    have md : Mod K mg (hidT s1.heap G) := ⟨lowK, low hm, ⟨mb, low hb, hbb⟩, by
      obtain ⟨mc, z1, z2⟩ := free
      exact ⟨mc, low z1, z2⟩⟩
    have env : Env0 P w K mg (hidT s1.heap G) callerA [] s1 G := ⟨rfl, md, fun b o e => of_hidT e, Nat.le_of_eq (hidT_size _ _), trivial, (fun b z => absurd (show b ∈ ([] : List Addr) from z) List.not_mem_nil), hok, .of_eq hg⟩
    have go := (F _ lowK (low hm)).run callerA [] s1 G ⟨[.ref c], []⟩ [.ref c] [.ref c] _ _ rfl hr env (bd s1 (.ref c)) (.cons rfl .nil) (hsp G only sq)
    refine codeAny_mono go fun r s2 h => ?_
    match r, h with
    | .error e, h => exact (show False from h).elim
    | .ok .next, h => exact (show False from h).elim
    | .ok .brk, h => exact (show False from h).elim
    | .ok .cont, h => exact (show False from h).elim
    | .ok (.ret u), h =>
      obtain ⟨v, G2, os, bare, un, hok2, r2, q⟩ := h
      obtain rfl : v = V.bl true := q
      obtain rfl : u = Value.bool true := r2
      refine ⟨rfl, OldK.of_keep fun b o e => ?_, os, bare⟩
      rcases only b with z | ⟨ob, xs, z⟩
      · exact un.keep b o e z (fun y => absurd (show b ∈ ([] : List Addr) from y) List.not_mem_nil) (by simp)
      · obtain ⟨e1, _⟩ := hok b _ z
        obtain ⟨e2, _⟩ := hok2 b _ (un.frzs b ob _ z)
        rw [e] at e1
        rw [Option.some.inj e1]
        exact e2
  by_cases hk : K.lookup c = none
  · refine main (fun b => if b = c then some (.frz { cls := .type "list", data := .seq cells.toArray } (.lst (ns.map V.int))) else none) (fun b => ?_) (.inl (.inr ⟨{ cls := .type "list", data := .seq cells.toArray }, if_pos rfl⟩)) (fun b u z => ?_) (fun b z => ?_) fun _ => hk
    · by_cases e : b = c
      · exact .inr ⟨_, _, if_pos e⟩
      · exact .inl (if_neg e)
    · by_cases e : b = c
      · obtain rfl := Option.some.inj ((if_pos e).symm.trans z)
        subst e
        exact ⟨hc, by rw [List.length_map]; exact hl, cells, _, rel, hc⟩
      · exact absurd ((if_neg e).symm.trans z) (by intro y; cases y)
    · by_cases e : b = c
      · exact e
      · exact absurd (if_neg e) z
  · obtain ⟨o, ho⟩ := Option.ne_none_iff_exists'.mp hk
    have e := inK c o ho
    rw [hc] at e
    obtain rfl := Option.some.inj e
    exact main (fun _ => none) (fun _ => .inl rfl) (.inr ⟨_, cells.toArray, _, ho, rfl, rfl, rfl, by rw [List.size_toArray, same]; exact hl, by simpa using rel⟩) (fun b u z => absurd (show (none : Option HO) = some u from z) (by intro y; cases y)) (fun b z => absurd rfl z) fun z => absurd rfl z
end
end Dl
end
section
set_option maxRecDepth 100000
set_option maxHeartbeats 4000000
namespace Dl
open PySem PySem.Spec PyProof.Rows L2
/-- what the head leaves, from the law's promise where nothing is shown -/
theorem walk_ofG {l : PySem.W.OpenLaw} {n k : Nat} {q : Program} {loose : List Str} {XP : (Str → Option Value) → Heap → Prop} {YP : World → Heap → Prop} {d : DefRec} {Kp : Params → PySem.W.Frag} {sp : World → Sp} {x : Str}
    (hn : l.most = some n) (hn2 : n ≤ sizeLine) (hdf : d.params.defaults = []) (hr : Room k callerA) (hY : ∀ (w : World) (h : Heap), YP w h → (Kp w.params).In h)
    (F : ∀ (w : World) (mg : Str → Option Value) (fa : Addr) (h : Heap), (Kp w.params).In h → h.Ns mainGlobals mg → mg d.name = some (.ref fa) →
      ∃ fd : FuncData, (∀ (s : Shared) (u : Value), BindsTo s fd ⟨[u], []⟩ [(x, u)]) ∧ ∀ low : Heap, (Kp w.params).In low → low.Ns mainGlobals mg → FnG l.prog w (Kp w.params) mg low k fa fd [x] (sp w))
    (hsp : ∀ (w : World) (H : Hp) (c : Addr) (ns : List Int), ns.length ≤ n → Only H → SqL (Kp w.params) H c (ns.map V.int) → sp w [.ref c] H (fun v _ => v = .bl true) fun _ _ _ => False) :
    PySem.W.WalkO q loose XP YP l.row.toRowW d [] (fun f vs => PySem.call f vs) := by
  refine Att.attach_call hn hdf fun w s0 s1 mg mb fa o pm cd doc c cells ns G Y ho hd hcd hmg hobj hints hlen hg => ?_
  obtain ⟨fd, bd, hF⟩ := F w mg fa _ (hY w _ Y) G.T.g hmg
  exact law_callG (hY w _ Y) G.T.g G.T.b G.T.builtins G.T.nolimit hg hobj hints (Nat.le_trans hlen hn2) hr hF bd fun H a b => hsp w H c ns hlen a b
end Dl
end
section
set_option maxRecDepth 100000
set_option maxHeartbeats 4000000
namespace Dl
open PySem PySem.Spec PyProof.Rows L2
theorem boot_sorted' : bootBuiltins (Str.ofString "sorted") = some (.builtin "sorted") := by decide +kernel
theorem boot_set' : bootBuiltins (Str.ofString "set") = some (.type "set") := by decide +kernel
/-! ### sorted(set(pairs)), whatever ints: some of the pairs, in some order -/
section
variable {P : Program} {w : World} {A : Around} {E : Value → Shared → Prop} {s : Shared}
theorem isT_pair {h : Heap} {k : List Int} {b : Addr} (x : IsT P w h k b) (hk : k.length = 2) : ∃ i j, Srt.IsPair h (.ref b) i j := by
  obtain ⟨o, its, n, ho, hc, hd, hi⟩ := x
  have ia := ints_of_items hi
  match k, hk, its, ia, hd with
  | [i, j], _, its, ia, hd =>
    have e : ∃ t u, its.toList = [.int i t, .int j u] := by
      generalize its.toList = l at ia
      cases ia with
      | cons _ t r => cases r with
        | cons _ u r => cases r; exact ⟨t, u, rfl⟩
    obtain ⟨t, u, e⟩ := e
    have e2 : its = #[.int i t, .int j u] := by rw [← Array.toArray_toList (xs := its), e]
    exact ⟨i, j, b, o, t, u, n, rfl, ho, hc, by rw [← e2]; exact hd⟩
theorem sorted_setP {a : Addr} {L : List (Addr × List Int)} {es : Array (Int × Value)} {ep : Nat} {t : SetTable} {Q : Value → Shared → Prop} (R : SetTR P w s.heap a L es ep t) (hh : A.handled = none) (two : ∀ p ∈ L, p.2.length = 2)
    (hQ : ∀ s' p (out : List Value) (c : Nat), (∀ b o, s.heap.get? b = some o → s'.heap.get? b = some o) → s'.gens = s.gens → s'.os = s.os → s.heap.objs.size ≤ p → s'.heap.get? p = some (seqObj "list" out.toArray c) → out.Perm (L.map fun q => Value.ref q.1) → Q (.ref p) s') :
    wpAny (model P w) A (call (.builtin "sorted") [.ref a]) Q E s := by
  obtain ⟨ob, h1, h2, h3⟩ := R.ob
  have few := R.few
  have sz := R.size
  refine Calls.call_function_entry kind_sorted plain_sorted entry_sorted (args_sorted1 _) ?_
  unfold Builtin.«sorted»
  refine wpAny_bind (m := checkCount "sorted" 1 1 _) (wpAny_pure ?_)
  refine wpAny_bind (collect_set (A := A.in1) hh ⟨ob, h1, h2.1, h3⟩ R.fits (by unfold scanBound; omega) R.tab.ris R.led fun s1 vs k1 z1 g1 o1 pm => ?_)
  have rows : es.toList.map (·.2) = L.map fun q => Value.ref q.1 := by
    rw [R.rows]
    unfold rowsOf
    rw [List.map_map] <;> rfl
  rw [rows] at pm
  have fit : vs.length ≤ sizeLine := by
    rw [pm.length_eq, List.length_map, sizeLine_eq]
    omega
  refine wpAny_bind (wpAny_newList ?_ fit)
  have at1 : (s1.heap.push (seqObj "list" vs.toArray 0)).get? s1.heap.objs.size = some (seqObj "list" vs.toArray 0) := Heap.get?_push_size _ rfl
  have pairs : ∀ v ∈ vs, ∃ i j, Srt.IsPair (s1.heap.push (seqObj "list" vs.toArray 0)) v i j := fun v hv => by
    obtain ⟨q, hq, rfl⟩ := List.mem_map.mp (pm.mem_iff.mp hv)
    exact isT_pair (P := P) (w := w) (isT_keep (R.tup q hq) fun b u e => Heap.get?_push_of_some _ (k1 b u e)) (two q hq)
  refine wpAny_bind (wpAny_holding (wpAny_call_entry slot_list_sort ⟨_, at1, rfl⟩ entry_list_sort (Srt.list_sort_any (s := { s1 with heap := s1.heap.push (seqObj "list" vs.toArray 0) }) at1 fit (fun h2 => Srt.pairs_sortable (s := { s1 with heap := s1.heap.push (seqObj "list" vs.toArray 0) }) (by omega) pairs fun o e => ?_) fun out ho => ⟨_, rfl, ?_⟩) (args_list_sort _)))
  · have e' : some o = some (seqObj "list" vs.toArray 0) := e.symm.trans at1
    cases e'
    intro c
    exact absurd (Value.type.inj c) (by decide)
  · obtain ⟨c, hc⟩ := sortedHeap_at (vs := vs) (out := out.toArray) at1
    refine wpAny_pure ⟨_, rfl, hQ _ s1.heap.objs.size out c (fun b u e => ?_) g1 o1 z1 hc (ho.trans pm)⟩
    have e1 := k1 b u e
    have lt := Heap.lt_size e1
    show (sortedHeap (s1.heap.push (seqObj "list" vs.toArray 0)) s1.heap.objs.size vs out.toArray).get? b = some u
    rw [sortedHeap_old (Nat.ne_of_lt lt) (by rw [size_push']; exact Nat.lt_succ_of_lt lt)]
    exact Heap.get?_push_of_some _ e1
end
def rSortedQ (K : PySem.W.Frag) (P : Program) (w : World) : List V → Hp → VK → Prop := fun vs H Q => ∃ (a : Addr) (L : List (Addr × List Int)), vs = [V.ref a] ∧ H a = some (SetTO P w a L) ∧ (∀ p ∈ L, SqT K H p.1 (p.2.map V.int) ∧ p.2.length = 2) ∧
  ∀ (L2 : List (Addr × List Int)) (p : Addr), (∀ q ∈ L2, q ∈ L) → L2.length < 64 → H p = none → Q (.ref p) (upd H p (.lst (L2.map fun q => V.ref q.1)))
section
variable {X : Cx}
theorem perm_map_out {α : Type} (f : Addr × List Int → α) : ∀ {out : List α} {L : List (Addr × List Int)}, out.Perm (L.map f) → ∃ L2 : List (Addr × List Int), out = L2.map f ∧ (∀ q ∈ L2, q ∈ L) ∧ L2.length = L.length := fun {out L} h => by
  have mem : ∀ o : List α, (∀ v ∈ o, v ∈ L.map f) → ∃ L2 : List (Addr × List Int), o = L2.map f ∧ ∀ q ∈ L2, q ∈ L := by
    intro o
    induction o with
    | nil => exact fun _ => ⟨[], rfl, fun q z => by cases z⟩
    | cons v r ih =>
      intro hv
      obtain ⟨q, hq, e⟩ := List.mem_map.mp (hv v List.mem_cons_self)
      obtain ⟨L2, e2, h2⟩ := ih fun u hu => hv u (List.mem_cons_of_mem _ hu)
      exact ⟨q :: L2, by rw [List.map_cons, e, e2], fun z hz => by
        rcases List.mem_cons.mp hz with rfl | hz
        · exact hq
        · exact h2 z hz⟩
  obtain ⟨L2, e, h2⟩ := mem out fun v hv => h.mem_iff.mp hv
  refine ⟨L2, e, h2, ?_⟩
  have l := h.length_eq
  rw [e, List.length_map, List.length_map] at l
  exact l
theorem cr_sortedQ (hc : X.calm = true) : CallR X (.builtin "sorted") (rSortedQ X.K X.prog X.w) := by
  intro pins s σ H vs us Q I r h
  obtain ⟨a, L, rfl, ha, hk, q⟩ := h
  have R0 : SetT0 X.prog X.w s.heap a L := (I.hok a _ ha).1
  obtain ⟨es, ep, t, R⟩ := R0.full fun p hp => I.isT (hk p hp).1
  rw [Vals.ref1 r]
  refine sorted_setP R (I.ok.hd hc) (fun p hp => (hk p hp).2) fun s2 p out c k g o hp hg perm => ?_
  obtain ⟨L2, rfl, sub, len⟩ := perm_map_out _ perm
  have few := R.few
  have fresh : H p = none := I.hok.fresh hp
  have J : Inv X pins σ (upd H p (.lst (L2.map fun q => V.ref q.1))) { s with heap := s2.heap, gens := s2.gens, drawn := s2.drawn, toks := s2.toks } :=
    I.call (ch := []) (Un.laid k hp fresh) (I.hok.laid k hp ⟨by rw [List.length_map, sizeLine_eq]; omega, _, c, vals_of_refs L2, hg⟩) (by rw [g]; exact I.bare) fun _ z => nomatch z
  have e : s2 = { s with heap := s2.heap, gens := s2.gens, drawn := s2.drawn, toks := s2.toks } := by
    cases s2
    cases s
    cases o
    rfl
  rw [e]
  exact ⟨.ref p, _, J, rfl, q L2 p sub (by omega) fresh⟩
end
theorem rows_of {K : PySem.W.Frag} {G : Hp} : ∀ {ws : List V} {nss : List (List Int)}, DeAll K G ws (nss.map fun ns => .tuple (ns.map PyData.int)) → ∃ ks : List (Addr × List Int), ws = ks.map (fun p => V.ref p.1) ∧ ks.map (·.2) = nss ∧ ∀ p ∈ ks, SqT K G p.1 (p.2.map V.int)
  | ws, [], h => by
    cases h
    exact ⟨[], rfl, rfl, fun p z => by cases z⟩
  | ws, ns :: nss, h => by
    rw [List.map_cons] at h
    cases h with
    | cons d r =>
      obtain ⟨a, vs, rfl, st, da⟩ := d.tupE
      rw [da.ints] at st
      obtain ⟨ks, e1, e2, e3⟩ := rows_of r
      exact ⟨(a, ns) :: ks, by rw [List.map_cons, e1], by rw [List.map_cons, e2], fun p hp => by
        rcases List.mem_cons.mp hp with rfl | hp
        · exact st
        · exact e3 p hp⟩
theorem rows_back {K : PySem.W.Frag} {G : Hp} : ∀ (ks : List (Addr × List Int)), (∀ p ∈ ks, SqT K G p.1 (p.2.map V.int)) → DeAll K G (ks.map fun p => V.ref p.1) ((ks.map (·.2)).map fun ns => .tuple (ns.map PyData.int))
  | [], _ => .nil
  | p :: ks, h => .cons (.tup (h p List.mem_cons_self) (DeAll.ofInts _)) (rows_back ks fun q hq => h q (List.mem_cons_of_mem _ hq))
section
variable {X : Cx} {Wo : WO} {M : Md X.K Wo} {ρ : List B} {t : Rs} {e : Expr} {P : List PyData → Rs → Prop} {pos pos2 p1 p2 : Pos}
theorem jl_sortedSet {k : Nat} (hc : X.calm = true) (hr : Room k X.A) (hm1 : X.mg "sorted" = none) (hm2 : X.mg "set" = none)
    (h : JD M e ρ t fun x t1 => ∃ nss : List (List Int), x = .list (nss.map fun ns => .tuple (ns.map PyData.int)) ∧ nss.length < 64 ∧ (∀ ns ∈ nss, ns.length = 2) ∧ ∀ mss : List (List Int), (∀ ns ∈ mss, ns ∈ nss) → mss.length < 64 → P (mss.map fun ns => .tuple (ns.map PyData.int)) t1)
    (hg1 : Gl X "sorted" := by rfl) (hg2 : Gl X "set" := by rfl) (h3 : starEach [e] X.env = (false, eval e X.env) :: starEach [] X.env := by rfl)
    (h4 : starEach [.Call (.Name "set" p2) [e] [] pos2] X.env = (false, eval (.Call (.Name "set" p2) [e] [] pos2) X.env) :: starEach [] X.env := by rfl) : JL M (.Call (.Name "sorted" p1) [.Call (.Name "set" p2) [e] [] pos2] [] pos) ρ t P :=
  jl_of (pe_callB (cr_sortedQ hc) hg1 hm1 boot_sorted' (pa_cons (pe_callTy (cr_setOfT hc (by have := hr.un; omega)) hg2 hm2 boot_set' (pa_cons peT pa_nil h3) (by decide) (by decide) h3 rfl) pa_nil h4) (by decide) (by decide) h4 rfl) fun σ G H S Q q =>
    h σ G H S _ fun G1 H1 v x t1 s1 d1 ⟨nss, ex, few, two, p⟩ => by
      subst ex
      obtain ⟨l, ws, rfl, st, da⟩ := d1.lstE
      obtain ⟨ks, rfl, e2, e3⟩ := rows_of da
      have k1 := (S.step s1).ok
      have hlen : ks.length = nss.length := by rw [← e2, List.length_map]
      refine ⟨l, ks, rfl, .inl (.inl (k1.sub _ _ st)), fun p hp => sqt_up k1.sub (e3 p hp), by omega, fun a L ha sub _ => ?_⟩
      have s2 := k1.layO (o := SetTO X.prog X.w a L) ha
      have k2 := k1.step s2
      have in2 : ∀ q ∈ L, q.2 ∈ nss := fun q hq => by
        rw [← e2]
        exact List.mem_map.mpr ⟨q, sub q hq, rfl⟩
      refine ⟨a, L, rfl, upd_same, fun p hp => ⟨sqt_up s2.sub (e3 p (sub p hp)), two _ (in2 p hp)⟩, fun L2 p2 sub2 len2 hp2 => ?_⟩
      have s3 := k2.layO (o := .lst (L2.map fun q => V.ref q.1)) hp2
      refine q G1 _ p2 _ _ t1 (s1.trans (s2.trans s3)) (fresh_of (s1.trans s2) hp2) (none_of k2 hp2) upd_same (rows_back L2 fun r hr => e3 r (sub r (sub2 r hr))) (p _ (fun ns hns => ?_) (by rw [List.length_map]; exact len2))
      obtain ⟨r, hr, rfl⟩ := List.mem_map.mp hns
      exact in2 r (sub2 r hr)
end
end Dl
end
section
set_option maxRecDepth 100000
set_option maxHeartbeats 4000000
namespace K01
open PySem PySem.Spec PyProof.Rows L2 Dl
def topS (i : Nat) : Stmt := PySem.Challenge.pw_ownrights_k01_kinds_and_forms.main.body.getD i (.Pass ⟨0, 0, 0, 0⟩)
abbrev s_is_integer : Stmt := topS 3
theorem sc_is_integer : FnScope ["thing"] ["thing"] (defScope s_is_integer) := ⟨rfl, rfl, rfl, by decide +kernel, rfl, by decide +kernel, by decide +kernel⟩
abbrev s_is_number : Stmt := topS 4
theorem sc_is_number : FnScope ["thing"] ["thing"] (defScope s_is_number) := ⟨rfl, rfl, rfl, by decide +kernel, rfl, by decide +kernel, by decide +kernel⟩
abbrev s_is_name : Stmt := topS 5
theorem sc_is_name : FnScope ["thing", "letter"] ["thing"] (defScope s_is_name) := ⟨rfl, rfl, rfl, by decide +kernel, rfl, by decide +kernel, by decide +kernel⟩
abbrev s_is_integers : Stmt := topS 6
theorem sc_is_integers : FnScope ["thing", "one"] ["thing"] (defScope s_is_integers) := ⟨rfl, rfl, rfl, by decide +kernel, rfl, by decide +kernel, by decide +kernel⟩
abbrev s_is_sum : Stmt := topS 7
theorem sc_is_sum : FnScope ["thing", "many"] ["thing", "many"] (defScope s_is_sum) := ⟨rfl, rfl, rfl, by decide +kernel, rfl, by decide +kernel, by decide +kernel⟩
abbrev s_is_ascending : Stmt := topS 8
theorem sc_is_ascending : FnScope ["things", "at"] ["things"] (defScope s_is_ascending) := ⟨rfl, rfl, rfl, by decide +kernel, rfl, by decide +kernel, by decide +kernel⟩
abbrev s_is_sums : Stmt := topS 9
theorem sc_is_sums : FnScope ["thing", "many", "one"] ["thing", "many"] (defScope s_is_sums) := ⟨rfl, rfl, rfl, by decide +kernel, rfl, by decide +kernel, by decide +kernel⟩
abbrev s_is_tuple : Stmt := topS 10
theorem sc_is_tuple : FnScope ["thing", "many"] ["thing", "many"] (defScope s_is_tuple) := ⟨rfl, rfl, rfl, by decide +kernel, rfl, by decide +kernel, by decide +kernel⟩
abbrev s_inner_words : Stmt := topS 16
theorem sc_inner_words : FnScope ["word"] ["word"] (defScope s_inner_words) := ⟨rfl, rfl, rfl, by decide +kernel, rfl, by decide +kernel, by decide +kernel⟩
abbrev s__fits : Stmt := topS 17
theorem sc__fits : FnScope ["part", "words", "names"] ["part", "words", "names"] (defScope s__fits) := ⟨rfl, rfl, rfl, by decide +kernel, rfl, by decide +kernel, by decide +kernel⟩
abbrev s__inner_parts : Stmt := topS 18
theorem sc__inner_parts : FnScope ["path", "part", "at"] ["path", "part"] (defScope s__inner_parts) := ⟨rfl, rfl, rfl, by decide +kernel, rfl, by decide +kernel, by decide +kernel⟩
abbrev s_first_wrong : Stmt := topS 19
theorem sc_first_wrong : FnScope ["thing", "words", "names", "waiting", "path", "part", "due", "inner_path", "inner"] ["thing", "words", "names"] (defScope s_first_wrong) := ⟨rfl, rfl, rfl, by decide +kernel, rfl, by decide +kernel, by decide +kernel⟩
abbrev s_is_count : Stmt := topS 20
theorem sc_is_count : FnScope ["thing"] ["thing"] (defScope s_is_count) := ⟨rfl, rfl, rfl, by decide +kernel, rfl, by decide +kernel, by decide +kernel⟩
abbrev s_is_condition : Stmt := topS 21
theorem sc_is_condition : FnScope ["thing"] ["thing"] (defScope s_is_condition) := ⟨rfl, rfl, rfl, by decide +kernel, rfl, by decide +kernel, by decide +kernel⟩
abbrev s__law_reader : Stmt := topS 23
theorem sc__law_reader : FnScope ["_law_script"] ["_law_script"] (defScope s__law_reader) := ⟨rfl, rfl, rfl, by decide +kernel, rfl, by decide +kernel, by decide +kernel⟩
abbrev s__law_draw : Stmt := topS 24
theorem sc__law_draw : FnScope ["_law_reader_here", "_law_many", "_law_found", "_law_cell", "_law_once"] ["_law_reader_here", "_law_many"] (defScope s__law_draw) := ⟨rfl, rfl, rfl, by decide +kernel, rfl, by decide +kernel, by decide +kernel⟩
abbrev s__law_changed : Stmt := topS 25
theorem sc__law_changed : FnScope ["_law_reader_here", "_law_thing", "_law_menu", "_law_at", "_law_way", "_law_parts"] ["_law_reader_here", "_law_thing", "_law_menu"] (defScope s__law_changed) := ⟨rfl, rfl, rfl, by decide +kernel, rfl, by decide +kernel, by decide +kernel⟩
abbrev s__law_is_integer : Stmt := topS 26
theorem sc__law_is_integer : FnScope ["_law_thing"] ["_law_thing"] (defScope s__law_is_integer) := ⟨rfl, rfl, rfl, by decide +kernel, rfl, by decide +kernel, by decide +kernel⟩
abbrev s__law_is_name : Stmt := topS 27
theorem sc__law_is_name : FnScope ["_law_thing", "_law_sign"] ["_law_thing"] (defScope s__law_is_name) := ⟨rfl, rfl, rfl, by decide +kernel, rfl, by decide +kernel, by decide +kernel⟩
abbrev s__law_plan : Stmt := topS 28
theorem sc__law_plan : FnScope ["_law_goal", "_law_word"] ["_law_goal", "_law_word"] (defScope s__law_plan) := ⟨rfl, rfl, rfl, by decide +kernel, rfl, by decide +kernel, by decide +kernel⟩
abbrev s__law_part_ok : Stmt := topS 29
theorem sc__law_part_ok : FnScope ["_law_slots", "_law_goal", "_law_item", "_law_plan_here"] ["_law_slots", "_law_goal", "_law_item"] (defScope s__law_part_ok) := ⟨rfl, rfl, rfl, by decide +kernel, rfl, by decide +kernel, by decide +kernel⟩
abbrev s__law_wrong : Stmt := topS 30
theorem sc__law_wrong : FnScope ["_law_slots", "_law_goal", "_law_item", "_law_path_now", "_law_plan_here", "_law_k", "_law_found"] ["_law_slots", "_law_goal", "_law_item", "_law_path_now"] (defScope s__law_wrong) := ⟨rfl, rfl, rfl, by decide +kernel, rfl, by decide +kernel, by decide +kernel⟩
abbrev s__law_leaf : Stmt := topS 31
theorem sc__law_leaf : FnScope ["_law_reader_here", "_law_slots"] ["_law_reader_here", "_law_slots"] (defScope s__law_leaf) := ⟨rfl, rfl, rfl, by decide +kernel, rfl, by decide +kernel, by decide +kernel⟩
abbrev s__law_number : Stmt := topS 32
theorem sc__law_number : FnScope ["_law_reader_here", "_law_slots", "_law_deep", "_law_way", "_law_one"] ["_law_reader_here", "_law_slots", "_law_deep"] (defScope s__law_number) := ⟨rfl, rfl, rfl, by decide +kernel, rfl, by decide +kernel, by decide +kernel⟩
abbrev s__law_condition : Stmt := topS 33
theorem sc__law_condition : FnScope ["_law_reader_here", "_law_slots", "_law_deep", "_law_way", "_law_one"] ["_law_reader_here", "_law_slots", "_law_deep"] (defScope s__law_condition) := ⟨rfl, rfl, rfl, by decide +kernel, rfl, by decide +kernel, by decide +kernel⟩
abbrev s__law_random_sum : Stmt := topS 34
theorem sc__law_random_sum : FnScope ["_law_reader_here", "_law_many", "_law_k"] ["_law_reader_here", "_law_many"] (defScope s__law_random_sum) := ⟨rfl, rfl, rfl, by decide +kernel, rfl, by decide +kernel, by decide +kernel⟩
abbrev s__law_is_sum : Stmt := topS 35
theorem sc__law_is_sum : FnScope ["_law_thing", "_law_many", "_law_one"] ["_law_thing", "_law_many"] (defScope s__law_is_sum) := ⟨rfl, rfl, rfl, by decide +kernel, rfl, by decide +kernel, by decide +kernel⟩
abbrev s__law_are_sums : Stmt := topS 36
theorem sc__law_are_sums : FnScope ["_law_thing", "_law_many", "_law_one", "_law_k"] ["_law_thing", "_law_many"] (defScope s__law_are_sums) := ⟨rfl, rfl, rfl, by decide +kernel, rfl, by decide +kernel, by decide +kernel⟩
abbrev s__law_plain_values : Stmt := topS 37
theorem sc__law_plain_values : FnScope ["_law_far", "_law_found", "_law_wide", "_law_k"] [] (defScope s__law_plain_values) := ⟨rfl, rfl, rfl, by decide +kernel, rfl, by decide +kernel, by decide +kernel⟩
abbrev s__law_expressions : Stmt := topS 38
theorem sc__law_expressions : FnScope ["_law_a", "_law_c", "_law_found", "_law_sign", "_law_deep", "_law_far", "_law_k"] [] (defScope s__law_expressions) := ⟨rfl, rfl, rfl, by decide +kernel, rfl, by decide +kernel, by decide +kernel⟩
abbrev s_law : Stmt := topS 39
theorem sc_law : FnScope ["_law_script", "_law_reader_here", "_law_menu", "_law_some", "_law_turn", "_law_item", "_law_lot", "_law_own", "_law_once", "_law_saved", "_law_many", "_law_want", "_law_got", "_law_k"] ["_law_script"] (defScope s_law) := ⟨rfl, rfl, rfl, by decide +kernel, rfl, by decide +kernel, by decide +kernel⟩
end K01
end
section
set_option maxRecDepth 100000
set_option maxHeartbeats 4000000
namespace Dl
open PySem PySem.Spec PyProof.Rows L2
theorem cut63 (ns : List Int) : cutV (ns.map V.int) none (some 63) = (ns.take 63).map V.int := by
  have e0 : HT.sIx (ns.map V.int).length 0 none = 0 := rfl
  have e1 : HT.sIx (ns.map V.int).length (ns.map V.int).length (some 63) = min 63 ns.length := by
    rw [List.length_map]
    unfold HT.sIx
    simp
  unfold cutV
  rw [e0, e1, List.drop_zero, Nat.sub_zero, ← List.map_take]
  by_cases h : 63 ≤ ns.length
  · rw [Nat.min_eq_left h]
  · rw [Nat.min_eq_right (by omega), List.take_of_length_le (Nat.le_refl _), List.take_of_length_le (by omega)]
/-- what the law's reader is made of -/
def spReader (K : PySem.W.Frag) : Sp := fun vs H Q _ => ∃ (a : Addr) (ns : List Int), vs = [.ref a] ∧ SqL K H a (ns.map V.int) ∧ ∀ p q, H p = none → q ≠ p → H q = none → Q (.ref q) (upd (upd H p (.lst ((ns.take 63).map V.int))) q (.lst [.ref p, .int 0, .int 0, .int 0]))
/-- a law: whatever script, True -/
def spLaw (K : PySem.W.Frag) : Sp := fun vs H Q _ => ∃ (a : Addr) (ns : List Int), vs = [.ref a] ∧ SqL K H a (ns.map V.int) ∧ ∀ H', Q (.bl true) H'
/-- behind the law's first row -/
theorem law_start {K : PySem.W.Frag} {N : List Str} (hN : 2 ≤ N.length) {a p q : Addr} {H : Hp} {ns : List Int} (hp : H p = none) (ne : q ≠ p) (hq : H q = none) :
    ∃ (M : Md K W4) (t : Rs) (G : Hp), t.ns.length ≤ 63 ∧ t.draws = 0 ∧ M.G0 = G ∧ Sat M t G (upd (upd H p (.lst ((ns.take 63).map V.int))) q (.lst [.ref p, .int 0, .int 0, .int 0])) ((L2.start N [.ref a]).set 1 (some (.ref q))) (.un :: .rd :: List.replicate (N.length - 2) .un) := by
  have sub : Same (upd (fun _ => none) p (.lst ((ns.take 63).map V.int))) (upd (upd H p (.lst ((ns.take 63).map V.int))) q (.lst [.ref p, .int 0, .int 0, .int 0])) := fun b u e => by
    by_cases hb : b = p
    · subst hb
      rw [upd_same] at e
      rw [upd_ne ne.symm, upd_same]
      exact e
    · rw [upd_ne hb] at e
      cases e
  refine ⟨{ r := q, up := w4_up, G0 := upd (fun _ => none) p (.lst ((ns.take 63).map V.int)), H0 := upd (upd H p (.lst ((ns.take 63).map V.int))) q (.lst [.ref p, .int 0, .int 0, .int 0]) }, ⟨ns.take 63, 0, 0, 0⟩, upd (fun _ => none) p (.lst ((ns.take 63).map V.int)), by rw [List.length_take]; omega, rfl, rfl, ?_⟩
  have ok : Ok (Wo := W4) (K := K) { r := q, up := w4_up, G0 := upd (fun _ => none) p (.lst ((ns.take 63).map V.int)), H0 := upd (upd H p (.lst ((ns.take 63).map V.int))) q (.lst [.ref p, .int 0, .int 0, .int 0]) } ⟨ns.take 63, 0, 0, 0⟩ (upd (fun _ => none) p (.lst ((ns.take 63).map V.int))) (upd (upd H p (.lst ((ns.take 63).map V.int))) q (.lst [.ref p, .int 0, .int 0, .int 0])) :=
    ⟨sub, upd_ne ne, _, upd_same, p, rfl, upd_same⟩
  have hs : ∀ i : Nat, (.un :: .rd :: List.replicate (N.length - 2) .un : List B)[i]? = some .rd → i = 1 := fun i e => by
    match i, e with
    | 0, e => cases e
    | 1, _ => rfl
    | i + 2, e =>
      rw [List.getElem?_cons_succ, List.getElem?_cons_succ, List.getElem?_replicate] at e
      split at e <;> cases e
  have ho : ∀ (i : Nat) (b : B), (.un :: .rd :: List.replicate (N.length - 2) .un : List B)[i]? = some b → b = .un ∨ b = .rd := fun i b e => by
    match i, e with
    | 0, e => exact .inl (Option.some.inj e).symm
    | 1, e => exact .inr (Option.some.inj e).symm
    | i + 2, e =>
      rw [List.getElem?_cons_succ, List.getElem?_cons_succ, List.getElem?_replicate] at e
      split at e
      · exact .inl (Option.some.inj e).symm
      · cases e
  refine ⟨ok.refl, ok, ?_, fun i b e => ?_, fun i j xs ys l _ e _ _ _ => ?_⟩
  · unfold L2.start
    simp
    omega
  · rcases ho i b e with rfl | rfl
    · trivial
    · obtain rfl := hs i e
      show ((L2.start N [.ref a]).set 1 (some (.ref q)))[1]? = some (some (.ref q))
      unfold L2.start
      rw [List.getElem?_set_self (by simp; omega)]
  · rcases ho i _ e with z | z <;> cases z
end Dl
namespace K01
open PySem PySem.Spec PyProof.Rows L2 Dl
abbrev NLaw : List Str := ["_law_script", "_law_reader_here", "_law_menu", "_law_some", "_law_turn", "_law_item", "_law_lot", "_law_own", "_law_once", "_law_saved", "_law_many", "_law_want", "_law_got", "_law_k"]
section
variable {P : Program} {w : World} {K : PySem.W.Frag} {mg : Str → Option Value} {base : Heap}
theorem ok_reader {f : Addr} {fd : FuncData} {k : Nat} (F : Fun K "_law_reader" "_law_reader" s__law_reader f fd) : FnOk P w K mg base CX0 (k + 1) f fd ["_law_script"] (spReader K) :=
  F.ok sc__law_reader (fun vs H Q E h => by
    obtain ⟨a, ns, rfl, _⟩ := h
    rfl) fun cdv A outer s H vs Q E hr h => by
    obtain ⟨a, ns, rfl, sq, q⟩ := h
    refine ⟨_, pss_one (ps_ret (pe_lst (pa_cons (pe_slice sl_list (pe_var (i := 0) rfl (Or.inl rfl)) po_none (po_some pe_int)) (pa_cons pe_int (pa_cons pe_int (pa_cons pe_int pa_nil)))))), ?_⟩
    refine ⟨.ref a, rfl, 63, rfl, a, _, rfl, sq, fun p hp => ?_⟩
    rw [cut63]
    refine ⟨by rw [sizeLine_eq]; exact (by decide : 4 ≤ 16777216), fun p2 hp2 => ?_⟩
    have ne : p2 ≠ p := fun z => by
      rw [z, upd_same] at hp2
      cases hp2
    rw [upd_ne ne] at hp2
    exact q p p2 hp ne hp2
theorem ok_law_of {f fr : Addr} {fd fdr : FuncData} {k : Nat} {ps1 : List Str} (F : Fun K "law" "law" s_law f fd) (Fr : FnOk P w K mg base CX0 k fr fdr ps1 (spReader K)) (hm : mg "_law_reader" = some (.ref fr)) (kp : PySem.W.keepIn K (.ref fr) = true) (bd : Binds K fdr ps1 [])
    (body : ∀ (cdv : Value) (A : Around) (outer : List Env) (s : Shared) (H : Hp) (E : XK) (M : Md K W4) (t : Rs), Room k (Xo P w K mg base NLaw "law" s_law f cdv A outer s H E).A → (Xo P w K mg base NLaw "law" s_law f cdv A outer s H E).A.guards = some [] → t.ns.length ≤ 63 → t.draws = 0 →
      JSs (X := Xo P w K mg base NLaw "law" s_law f cdv A outer s H E) M ((defBody s_law).drop 1) (.un :: .rd :: List.replicate (NLaw.length - 2) .un) t { nx := fun _ _ => False, rt := fun b _ => b = .d (.bool true) }) : FnG P w K mg base (k + 1) f fd ["_law_script"] (spLaw K) := by
  refine fnG_of F sc_law (fun ys G Qf Ef h => ?_) fun cdv A out s0 H ys Qf Ef hg hr h => ?_
  · obtain ⟨a, ns, rfl, _⟩ := h
    rfl
  · obtain ⟨a, ns, rfl, sq, q⟩ := h
    refine ⟨_, pss_cons (ps_set (i := 1) sc_law.nd rfl (Or.inr rfl) (pe_call Fr hr rfl hm kp bd .nil pass0 (pa_cons (pe_var (i := 0) rfl (Or.inl rfl)) pa_nil)) rfl (.inl rfl)) pssT, ?_⟩
    refine ⟨.ref a, rfl, a, ns, rfl, sq, fun p r hp ne hq => ?_⟩
    obtain ⟨M, t, G, h1, h2, h3, S⟩ := law_start (K := K) (N := NLaw) (by decide) (a := a) (ns := ns) hp ne hq
    refine body cdv A out s0 H Ef M t hr hg h1 h2 _ G _ S _ ⟨fun _ _ _ _ _ _ _ z => z.elim, fun _ _ _ _ _ _ _ z => z.elim, fun _ _ _ _ _ _ _ z => z.elim, fun G2 H2 t2 v x _ d z => ?_, fun _ _ _ _ _ _ _ _ _ _ _ z => ?_⟩
    · cases z
      rw [d.blE]
      exact q H2
    · cases z
end
end K01
end
section
set_option maxRecDepth 100000
set_option maxHeartbeats 4000000
namespace Dl
open PySem PySem.Spec PyProof.Rows L2
mutual
theorem Fin.noD : ∀ x : PyData, Fin x → x.hasDict = false
  | .none, _ => by simp only [PyData.hasDict]
  | .bool _, _ => by simp only [PyData.hasDict]
  | .int _, _ => by simp only [PyData.hasDict]
  | .str _, _ => by simp only [PyData.hasDict]
  | .list xs, h => by
    simp only [PyData.hasDict]
    exact FinA.noD xs h
  | .tuple xs, h => by
    simp only [PyData.hasDict]
    exact FinA.noD xs h
  | .dict _, h => h.elim
theorem FinA.noD : ∀ xs : List PyData, FinA xs → PyData.hasDictAll xs = false
  | [], _ => by simp only [PyData.hasDictAll]
  | x :: xs, h => by
    simp only [PyData.hasDictAll]
    rw [Fin.noD x h.1, FinA.noD xs h.2]
    rfl
end
section
variable {X : Cx} {Wo : WO} {M : Md X.K Wo} {ρ : List B} {t : Rs} {e a b : Expr} {pos p : Pos} {x : Str} {k j : Nat} {S : List B → Rs → (B → Rs → Prop) → Prop}
theorem jd_repr {P : PyData → Rs → Prop} (hr : Room k X.A) (hg0 : X.A.guards = some []) (hm : X.mg "repr" = none) (h : JD M e ρ t fun y t1 => Fin y ∧ sz y ≤ 55000 ∧ y.depth ≤ 60 ∧ P (.str y.shown) t1) (hg : Gl X "repr" := by rfl)
    (h3 : starEach [e] X.env = (false, eval e X.env) :: starEach [] X.env := by rfl) : JD M (.Call (.Name "repr" p) [e] [] pos) ρ t P :=
  jd_of (pe_callB (cr_repr hr hg0) hg hm (by decide +kernel) (pa_cons peT pa_nil h3) (by decide) (by decide) h3 rfl) fun σ G H S Q q => h σ G H S _ fun G1 H1 v y t1 s1 d1 ⟨fy, sy, dy, p1⟩ => by
    refine ⟨v, y, rfl, De.dp _ _ (De.up (S.step s1).ok.sub _ _ d1), Fin.show_ y fy, Fin.noD y fy, by omega, ?_, fun i e => ?_, q G1 H1 _ _ t1 s1 (.str _) p1⟩
    · have := Fin.len y fy
      rw [sizeLine_eq]
      omega
    · subst e
      have f1 : i.natAbs < 2 ^ 256 := fy
      by_cases z : i.natAbs = 0
      · rw [z]
        decide
      · have := (Nat.log2_lt z).mpr f1
        omega
theorem jt_neS {P : Bool → Rs → Prop} (h : JD M a ρ t fun x t1 => ∃ y, x = .str y ∧ JD M b ρ t1 fun z t2 => ∃ u, z = .str u ∧ P (!decide (y = u)) t2) : JT M (.Compare a [.NotEq] [b] pos) ρ t P :=
  jt_cmp op_ne (nomark _) (h.imp fun x _ ⟨y, e, h1⟩ => h1.imp fun z _ ⟨u, e2, q⟩ => by
    subst e e2
    intro G H v w k hv hw Q r
    rw [hv.strE, hw.strE]
    have e3 : (!decide (V.str y = V.str u)) = !decide (y = u) := by
      by_cases hy : y = u
      · rw [decide_eq_true hy, decide_eq_true (by rw [hy])]
      · rw [decide_eq_false hy, decide_eq_false (fun z => hy (V.str.inj z))]
    exact ⟨rfl, by rw [e3]; exact keep k r (.bl _) ⟨_, rfl, q⟩⟩)
theorem jd_call0 {P : PyData → Rs → Prop} (D : Def X.prog X.w X.K Wo X.mg X.base k x 0 S) (hr : Room j X.A) (hk : k ≤ j) (hg : Gl X x) (h : S [] t fun b t2 => ∃ y, b = .d y ∧ P y t2)
    (h2 : (x == ("__debug__" : Str)) = false := by decide) : JD M (.Call (.Name x p) [] [] pos) ρ t P := by
  obtain ⟨f, fd, ps, F, hm, kp, hb⟩ := D.ex
  refine jd_of (pe_call0 F (hr.mono hk) hg hm kp hb .nil pass0 h2) fun σ G H S Q q => ?_
  show spD X.K Wo 0 _ ([] ++ []) H Q E0
  refine ⟨M, G, [], t, _, S.ok, .nil, rfl, h, fun G2 H2 v z t2 s2 d2 ⟨y, ey, py⟩ => ?_, fun G2 H2 l ws xs t2 s2 n g e a ⟨y, ey, py⟩ => (by cases ey)⟩
  cases ey
  exact q G2 H2 v z t2 s2 d2 py
end
end Dl
end
section
set_option maxRecDepth 100000
set_option maxHeartbeats 4000000
namespace Dl
open PySem PySem.Spec PyProof.Rows L2
/-- the built-ins are still what they are -/
structure Bu (mg : Str → Option Value) : Prop where
  isi : mg "isinstance" = none
  int : mg "int" = none
  bool : mg "bool" = none
  str : mg "str" = none
  tuple : mg "tuple" = none
  list : mg "list" = none
  len : mg "len" = none
  all : mg "all" = none
  range : mg "range" = none
  sorted : mg "sorted" = none
  set : mg "set" = none
  repr : mg "repr" = none
theorem boot_all : bootBuiltins (Str.ofString "all") = some (.builtin "all") := by decide +kernel
theorem boot_tuple : bootBuiltins (Str.ofString "tuple") = some (.type "tuple") := by decide +kernel
theorem boot_list : bootBuiltins (Str.ofString "list") = some (.type "list") := by decide +kernel
theorem boot_bool : bootBuiltins (Str.ofString "bool") = some (.type "bool") := by decide +kernel
theorem boot_str : bootBuiltins (Str.ofString "str") = some (.type "str") := by decide +kernel
theorem boot_repr : bootBuiltins (Str.ofString "repr") = some (.builtin "repr") := by decide +kernel
theorem boot_int' : bootBuiltins (Str.ofString "int") = some (.type "int") := by decide +kernel
section
variable {X : Cx} {Wo : WO} {M : Md X.K Wo} {ρ : List B} {t : Rs} {e : Expr} {P : PyData → Rs → Prop} {pos p : Pos}
theorem jd_len (u : Bu X.mg) (h : JD M e ρ t fun x t1 => ∃ n, lenD x = some n ∧ n ≤ 16777216 ∧ P (.int n) t1) (hg : Gl X (Str.ofString "len") := by rfl)
    (h3 : starEach [e] X.env = (false, eval e X.env) :: starEach [] X.env := by rfl) : JD M (.Call (.Name (Str.ofString "len") p) [e] [] pos) ρ t P :=
  jd_callB call_len hg u.len PySem.boot_len (ja_cons (h.imp fun x _ ⟨n, a, b, c⟩ => ja_nil (cn_len a b c)) h3) (h3 := h3)
theorem jd_intc (u : Bu X.mg) (h : JD M e ρ t fun x t1 => ∃ i, x = .int i ∧ P (.int i) t1) (hg : Gl X (Str.ofString "int") := by rfl)
    (h3 : starEach [e] X.env = (false, eval e X.env) :: starEach [] X.env := by rfl) : JD M (.Call (.Name (Str.ofString "int") p) [e] [] pos) ρ t P :=
  jd_callTy call_int1 hg u.int boot_int' (ja_cons (h.imp fun x _ ⟨n, a, c⟩ => ja_nil (by subst a; exact cn_int c)) h3) (h3 := h3)
theorem jd_tupc (u : Bu X.mg) (h : JD M e ρ t fun x t1 => ∃ xs, (x = .list xs ∨ x = .tuple xs) ∧ P (.tuple xs) t1) (hg : Gl X (Str.ofString "tuple") := by rfl)
    (h3 : starEach [e] X.env = (false, eval e X.env) :: starEach [] X.env := by rfl) : JD M (.Call (.Name (Str.ofString "tuple") p) [e] [] pos) ρ t P :=
  jd_callTy call_tuple_of hg u.tuple boot_tuple (ja_cons (h.imp fun x _ ⟨n, a, c⟩ => ja_nil (cn_tuple a c)) h3) (h3 := h3)
theorem jl_listc {P : List PyData → Rs → Prop} (u : Bu X.mg) (h : JD M e ρ t fun x t1 => ∃ xs, (x = .list xs ∨ x = .tuple xs) ∧ P xs t1) (hg : Gl X (Str.ofString "list") := by rfl)
    (h3 : starEach [e] X.env = (false, eval e X.env) :: starEach [] X.env := by rfl) : JL M (.Call (.Name (Str.ofString "list") p) [e] [] pos) ρ t P :=
  jl_callTy call_list_of hg u.list boot_list (ja_cons (h.imp fun x _ ⟨n, a, c⟩ => ja_nil (cn_list a c)) h3) (h3 := h3)
theorem jd_all (u : Bu X.mg) (hc : X.calm = true) (h : JD M e ρ t fun x t1 => ∃ bs : List Bool, x = .list (bs.map PyData.bool) ∧ P (.bool (bs.all id)) t1) (hg : Gl X (Str.ofString "all") := by rfl)
    (h3 : starEach [e] X.env = (false, eval e X.env) :: starEach [] X.env := by rfl) : JD M (.Call (.Name (Str.ofString "all") p) [e] [] pos) ρ t P :=
  jd_callB (cr_all hc) hg u.all boot_all (ja_cons (h.imp fun x _ ⟨n, a, c⟩ => ja_nil (by subst a; exact cn_all c)) h3) (h3 := h3)
end
abbrev JL.toD {X : Cx} {Wo : WO} {M : Md X.K Wo} {ρ : List B} {t : Rs} {e : Expr} {P : PyData → Rs → Prop} (h : JL M e ρ t fun xs t' => P (.list xs) t') : JD M e ρ t P := DL.toD h
theorem fmod_pos {i j : Int} (h : 0 < j) : 0 ≤ i.fmod j ∧ i.fmod j < j := by
  rw [Int.fmod_eq_emod_of_nonneg _ (by omega)]
  exact ⟨Int.emod_nonneg _ (by omega), Int.emod_lt_of_pos _ h⟩
end Dl
namespace K01
open PySem PySem.Spec PyProof.Rows L2 Dl

local macro_rules | `(tactic| walk_at "nm") => `(tactic| first | refine jd_name 0 rfl ?_ | refine jd_name 1 rfl ?_ | refine jd_name 2 rfl ?_ | refine jd_name 3 rfl ?_ | refine jd_name 4 rfl ?_ | refine jd_name 5 rfl ?_ | refine jd_name 6 rfl ?_ | refine jd_name 7 rfl ?_ | refine jd_name 8 rfl ?_ | refine jd_name 9 rfl ?_ | refine jd_name 10 rfl ?_ | refine jd_name 11 rfl ?_ | refine jd_name 12 rfl ?_ | refine jd_name 13 rfl ?_)
local macro_rules | `(tactic| walk_at "sub") => `(tactic| fail)
local macro_rules | `(tactic| walk_at "call") => `(tactic| first | refine jd_len (by assumption) ?_ | refine jd_intc (by assumption) ?_ | refine jd_tupc (by assumption) ?_)
local macro_rules | `(tactic| walk_at "cmp") => `(tactic| first | refine jd_eq (by assumption) ?_ | refine jd_ne (by assumption) ?_)
local macro_rules | `(tactic| walk_at "cmpT") => `(tactic| first | refine jt_eq (by assumption) ?_ | refine jt_ne (by assumption) ?_)
local macro_rules | `(tactic| walk_at "callT") => `(tactic| refine jt_val ?_)
local macro_rules | `(tactic| walk_at "je") => `(tactic| first
  | with_reducible refine ⟨_, rfl, ?_⟩
  | (refine g_name ?_; walk_at "nm") | refine jd_int ?_ | refine jd_str ?_
  | (refine g_args ?_; refine ja_cons ?_) | refine ja_nil ?_ | refine jd_tup ?_
  | (refine g_call ?_; walk_at "call") | (refine g_sub ?_; walk_at "sub")
  | refine jd_add ?_ | refine jd_sub ?_ | refine jd_mul ?_ | refine jd_fdiv ?_ | refine jd_mod ?_ | refine jd_pow ?_
  | refine jt_lt ?_ | refine jt_le ?_ | refine jt_gt ?_ | refine jt_ge ?_ | refine jt_isN ?_ | refine jt_notN ?_ | refine jt_not ?_ | refine jw_and ?_ | refine jw_or ?_ | refine jw_and1 ?_ | refine jw_or1 ?_
  | (refine g_cmpT ?_; walk_at "cmpT") | (refine g_callT ?_; walk_at "callT")
  | refine jd_lt ?_ | refine jd_le ?_ | refine jd_gt ?_ | refine jd_ge ?_ | refine jd_isN ?_ | refine jd_notN ?_ | (refine g_cmp ?_; walk_at "cmp")
  | refine jd_bl ?_ | refine jd_non ?_
  | refine jd_if ?_ | refine jd_and ?_ | refine jd_or ?_ | refine jd_one ?_ | refine jd_not ?_ | refine jd_neg ?_
  | refine jo_none ?_ | refine jo_some ?_
  | refine jss_nil ?_ | refine jss_ret ?_ | refine jss_if0 ?_ | refine jss_if ?_ | refine jt_bop ?_
  | with_reducible refine And.intro (by assumption) ?_ | refine And.intro (show List.length _ = _ from rfl) ?_ | refine And.intro (Or.inl (by decide)) ?_ | refine And.intro (by decide : _ ≠ _) ?_ | refine And.intro ⟨by decide, by decide⟩ ?_ | refine And.intro ⟨by decide, by decide, by decide⟩ ?_
  | (dsimp only; first | refine jss_nil ?_ | refine jss_ret ?_))
local macro_rules | `(tactic| walk_at "sub") => `(tactic| first | refine jd_rdC 0 rfl ?_ | refine jd_rdN 0 (Or.inl rfl) rfl ?_ | refine jd_rdN 0 (Or.inr (Or.inl rfl)) rfl ?_ | refine jd_rdN 0 (Or.inr (Or.inr rfl)) rfl ?_)
local macro_rules | `(tactic| walk_at "rs") => `(tactic| first | refine jss_rdSet 0 (Or.inl rfl) rfl ?_ | refine jss_rdSet 0 (Or.inr (Or.inl rfl)) rfl ?_ | refine jss_rdSet 0 (Or.inr (Or.inr rfl)) rfl ?_)
section
variable {P : Program} {w : World} {K : PySem.W.Frag} {mg : Str → Option Value} {base : Heap}
/-- a draw below m: any number may come -/
abbrev S_draw : List B → Rs → (B → Rs → Prop) → Prop := fun bs t Q => ∃ m : Int, bs = [.rd, .d (.int m)] ∧ 0 < m ∧ m < 1073741824 ∧ t.ns.length ≤ 63 ∧ 0 ≤ t.draws ∧ t.draws < 1000000000000 ∧
  ∀ (i : Int) (t' : Rs), 0 ≤ i → i < m → t'.ns = t.ns → t'.draws = t.draws + 1 → Q (.d (.int i)) t'
theorem ok_draw {f : Addr} {fd : FuncData} {k : Nat} (F : Fun K "_law_draw" "_law_draw" s__law_draw f fd) (u : Bu mg) : FnOk P w K mg base CX0 (k + 1) f fd ["_law_reader_here", "_law_many"] (spD K W4 2 S_draw) :=
  okD F sc__law_draw rfl fun cdv A outer s H E M bs t Q hr hl h => by
    obtain ⟨m, rfl, m0, m1, hn, d0, d1, q⟩ := h
    have nd := sc__law_draw.nd
    have step3 : ∀ t1 : Rs, t1.ns = t.ns → t1.draws = t.draws + 1 → ∀ i : Int, 0 ≤ i → i < m → Q (.d (.int i)) t1 := fun t1 e1 e2 i a b => q i t1 a b e1 e2
    have mn : m ≠ 0 := by omega
    have mc : ∀ i, CDivN i m := fun i => ⟨by omega, by omega⟩
    walk_at "rs"
    repeat walk_at "je"
    refine ⟨fun h1 => ?_, fun h1 => ?_⟩
    · refine jss_set 2 nd ?_
      repeat walk_at "je"
      walk_at "rs"
      repeat walk_at "je"
      refine ⟨mc _, ?_⟩
      repeat walk_at "je"
      exact step3 _ (by rfl) (by rfl) _ (fmod_pos m0).1 (fmod_pos m0).2
    · refine jss_set 3 nd ?_
      have tail : ∀ (cell : Int) (t2 : Rs), t2.ns = t.ns → t2.draws = t.draws + 1 → JSs M (X := Xo P w K mg base ["_law_reader_here", "_law_many", "_law_found", "_law_cell", "_law_once"] "_law_draw" s__law_draw f cdv A outer s H E) ((defBody s__law_draw).drop 6) [.rd, .d (.int m), .un, .d (.int cell), .un] t2 { nx := fun _ t' => Q (.d .none) t', rt := Q } := by
        intro cell t2 e1 e2
        have ed : t2.fld 3 = t.draws + 1 := e2
        refine jss_set 4 nd ?_
        repeat walk_at "je"
        rw [ed]
        have hc := fmod_pos (i := cell) (j := 2147483543) (by decide)
        refine ⟨⟨by decide, by decide, by omega⟩, ?_⟩
        repeat walk_at "je"
        rw [ed]
        have hd := fmod_pos (i := (cell.fmod 2147483543 + 7607 * (t.draws + 1) + 11) ^ (5 : Int).toNat) (j := 2147483629) (by decide)
        refine ⟨⟨by decide, by decide, by omega⟩, ?_⟩
        repeat walk_at "je"
        exact step3 _ (by exact e1) (by exact e2) _ (fmod_pos m0).1 (fmod_pos m0).2
      have rest : ∀ (cell : Int) (t1 : Rs), t1.ns = t.ns → t1.draws = t.draws + 1 → JSs M (X := Xo P w K mg base ["_law_reader_here", "_law_many", "_law_found", "_law_cell", "_law_once"] "_law_draw" s__law_draw f cdv A outer s H E) ((defBody s__law_draw).drop 4) [.rd, .d (.int m), .un, .d (.int cell), .un] t1 { nx := fun _ t' => Q (.d .none) t', rt := Q } := by
        intro cell t1 e1 e2
        walk_at "rs"
        repeat walk_at "je"
        refine ⟨fun h2 => ?_, fun h2 => ⟨fun z => (by cases z), fun _ => tail _ _ e1 e2⟩⟩
        repeat walk_at "je"
        refine ⟨by rw [List.length_map]; show t1.ns.length ≤ _; rw [e1]; omega, ?_⟩
        repeat walk_at "je"
        refine ⟨fun h3 => ?_, fun h3 => tail _ _ e1 e2⟩
        walk_at "rs"
        repeat walk_at "je"
        refine ⟨mc _, ?_⟩
        repeat walk_at "je"
        exact step3 _ (by exact e1) (by exact e2) _ (fmod_pos m0).1 (fmod_pos m0).2
      repeat walk_at "je"
      refine JL.toD (jl_lst ?_)
      repeat walk_at "je"
      refine ⟨[], rfl, by decide, shaped_ints _, by decide +kernel, fun h2 => ?_, fun h2 => rest 47 _ (by rfl) (by rfl)⟩
      have hne : t.ns ≠ [] := fun z => by
        have h2' : (!PyData.eqv (.list (t.ns.map PyData.int)) (.list [])) = true := h2
        rw [z] at h2'
        revert h2'
        decide +kernel
      have hpos : 0 < t.ns.length := List.length_pos_iff.mpr hne
      have hb := fmod_pos (i := t.nxt) (j := (t.ns.length : Int)) (by omega)
      refine jss_set 3 nd ?_
      refine jd_ixL ?_
      repeat walk_at "je"
      refine ⟨by rw [List.length_map]; show t.ns.length ≤ _; omega, ?_⟩
      obtain ⟨j, ej⟩ : ∃ j : Nat, t.nxt.fmod (t.ns.length : Int) = (j : Int) := ⟨_, (Int.toNat_of_nonneg hb.1).symm⟩
      have hj : j < t.ns.length := by omega
      refine ⟨_, rfl, by rw [List.length_map]; show ((t.ns.length : Nat) : Int) ≠ 0; omega, (t.nxt.fmod (t.ns.length : Int)), .int t.ns[j], ?_, ?_, ?_⟩
      · rw [List.length_map]
        rfl
      · rw [ej]
        refine atI_nat ?_
        show (t.ns.map PyData.int)[j]? = _
        rw [List.getElem?_map, List.getElem?_eq_getElem hj]
        rfl
      · repeat walk_at "je"
        exact rest _ _ (by rfl) (by rfl)
end
end K01
end
section
set_option maxRecDepth 100000
set_option maxHeartbeats 4000000
namespace K01
open PySem PySem.Spec PyProof.Rows L2 Dl

local macro_rules | `(tactic| walk_at "nm") => `(tactic| first | refine jd_name 0 rfl ?_ | refine jd_name 1 rfl ?_ | refine jd_name 2 rfl ?_ | refine jd_name 3 rfl ?_ | refine jd_name 4 rfl ?_ | refine jd_name 5 rfl ?_ | refine jd_name 6 rfl ?_ | refine jd_name 7 rfl ?_ | refine jd_name 8 rfl ?_ | refine jd_name 9 rfl ?_ | refine jd_name 10 rfl ?_ | refine jd_name 11 rfl ?_ | refine jd_name 12 rfl ?_ | refine jd_name 13 rfl ?_)
local macro_rules | `(tactic| walk_at "sub") => `(tactic| fail)
local macro_rules | `(tactic| walk_at "call") => `(tactic| first | refine jd_len (by assumption) ?_ | refine jd_intc (by assumption) ?_ | refine jd_tupc (by assumption) ?_)
local macro_rules | `(tactic| walk_at "cmp") => `(tactic| first | refine jd_eq (by assumption) ?_ | refine jd_ne (by assumption) ?_)
local macro_rules | `(tactic| walk_at "cmpT") => `(tactic| first | refine jt_eq (by assumption) ?_ | refine jt_ne (by assumption) ?_)
local macro_rules | `(tactic| walk_at "callT") => `(tactic| refine jt_val ?_)
local macro_rules | `(tactic| walk_at "je") => `(tactic| first
  | with_reducible refine ⟨_, rfl, ?_⟩
  | (refine g_name ?_; walk_at "nm") | refine jd_int ?_ | refine jd_str ?_
  | (refine g_args ?_; refine ja_cons ?_) | refine ja_nil ?_ | refine jd_tup ?_
  | (refine g_call ?_; walk_at "call") | (refine g_sub ?_; walk_at "sub")
  | refine jd_add ?_ | refine jd_sub ?_ | refine jd_mul ?_ | refine jd_fdiv ?_ | refine jd_mod ?_ | refine jd_pow ?_
  | refine jt_lt ?_ | refine jt_le ?_ | refine jt_gt ?_ | refine jt_ge ?_ | refine jt_isN ?_ | refine jt_notN ?_ | refine jt_not ?_ | refine jw_and ?_ | refine jw_or ?_ | refine jw_and1 ?_ | refine jw_or1 ?_
  | (refine g_cmpT ?_; walk_at "cmpT") | (refine g_callT ?_; walk_at "callT")
  | refine jd_lt ?_ | refine jd_le ?_ | refine jd_gt ?_ | refine jd_ge ?_ | refine jd_isN ?_ | refine jd_notN ?_ | (refine g_cmp ?_; walk_at "cmp")
  | refine jd_bl ?_ | refine jd_non ?_
  | refine jd_if ?_ | refine jd_and ?_ | refine jd_or ?_ | refine jd_one ?_ | refine jd_not ?_ | refine jd_neg ?_
  | refine jo_none ?_ | refine jo_some ?_
  | refine jss_nil ?_ | refine jss_ret ?_ | refine jss_if0 ?_ | refine jss_if ?_ | refine jt_bop ?_
  | with_reducible refine And.intro (by assumption) ?_ | refine And.intro (show List.length _ = _ from rfl) ?_ | refine And.intro (Or.inl (by decide)) ?_ | refine And.intro (by decide : _ ≠ _) ?_ | refine And.intro ⟨by decide, by decide⟩ ?_ | refine And.intro ⟨by decide, by decide, by decide⟩ ?_
  | (dsimp only; first | refine jss_nil ?_ | refine jss_ret ?_))
local macro_rules | `(tactic| walk_at "call") => `(tactic| first | refine jd_isi (T := "int") (Ts := "int") rfl rfl (Bu.isi (by assumption)) rfl (Bu.int (by assumption)) boot_int' (by simp) ?_ | refine jd_isi (T := "bool") (Ts := "bool") rfl rfl (Bu.isi (by assumption)) rfl (Bu.bool (by assumption)) Dl.boot_bool (by simp) ?_ | refine jd_isi (T := "str") (Ts := "str") rfl rfl (Bu.isi (by assumption)) rfl (Bu.str (by assumption)) Dl.boot_str (by simp) ?_ | refine jd_isi (T := "tuple") (Ts := "tuple") rfl rfl (Bu.isi (by assumption)) rfl (Bu.tuple (by assumption)) Dl.boot_tuple (by simp) ?_ | refine jd_isi (T := "list") (Ts := "list") rfl rfl (Bu.isi (by assumption)) rfl (Bu.list (by assumption)) Dl.boot_list (by simp) ?_)
def isInt : PyData → Bool
  | .int _ => true
  | _ => false
def isNum : PyData → Bool
  | .int i => decide (i ≥ 0)
  | _ => false
def isStr : PyData → Bool
  | .str _ => true
  | _ => false
def isTup : PyData → Bool
  | .tuple _ => true
  | _ => false
theorem isi_str (x : PyData) : isiD "str" x = isStr x := by cases x <;> rfl
theorem isi_tup (x : PyData) : isiD "tuple" x = isTup x := by cases x <;> rfl
def abc : Str := "abcdefghijklmnopqrstuvwxyz"
def nameS (y : Str) : Bool := decide (1 ≤ y.length ∧ y.length ≤ 8) && y.cps.toList.all fun c => decide (97 ≤ c ∧ c ≤ 122)
def isName : PyData → Bool
  | .str y => nameS y
  | _ => false
theorem in_abc (c : Nat) : decide (c ∈ abc.cps.toList) = decide (97 ≤ c ∧ c ≤ 122) := by
  have e : abc.cps.toList = List.range' 97 26 := by decide +kernel
  rw [e]
  congr 1
  rw [List.mem_range'_1]
  apply propext
  omega
def sgnOk : PyData → Bool
  | .str y => y.cps.toList.all fun c => decide (97 ≤ c ∧ c ≤ 122)
  | _ => false
section
variable {P : Program} {w : World} {K : PySem.W.Frag} {mg : Str → Option Value} {base : Heap}
abbrev S_is_integer : List B → Rs → (B → Rs → Prop) → Prop := fun bs t Q => ∃ x, bs = [.d x] ∧ Q (.d (.bool (isInt x))) t
theorem ok_is_integer {Wo : WO} {f : Addr} {fd : FuncData} {k : Nat} (F : Fun K "is_integer" "is_integer" s_is_integer f fd) (u : Bu mg) : FnOk P w K mg base CX0 (k + 1) f fd ["thing"] (spD K Wo 1 S_is_integer) :=
  okD F sc_is_integer rfl fun cdv A outer s H E M bs t Q hr hl h => by
    obtain ⟨x, rfl, q⟩ := h
    repeat walk_at "je"
    refine ⟨fun h1 => ?_, fun h1 => ?_⟩
    · repeat walk_at "je"
      cases x <;> first | (exact q) | (simp [isiD, tyD] at h1)
    · cases x <;> first | (exact q) | (simp [isiD, tyD] at h1)
abbrev S_is_number : List B → Rs → (B → Rs → Prop) → Prop := fun bs t Q => ∃ x, bs = [.d x] ∧ Q (.d (.bool (isNum x))) t
theorem ok_is_number {Wo : WO} {f : Addr} {fd : FuncData} {k : Nat} (F : Fun K "is_number" "is_number" s_is_number f fd) (u : Bu mg) (D1 : Def P w K Wo mg base k "is_integer" 1 S_is_integer) : FnOk P w K mg base CX0 (k + 1) f fd ["thing"] (spD K Wo 1 S_is_number) :=
  okD F sc_is_number rfl fun cdv A outer s H E M bs t Q hr hl h => by
    obtain ⟨x, rfl, q⟩ := h
    refine jss_ret (jd_and (jd_call D1 hr (Nat.le_refl _) rfl ?_))
    repeat walk_at "je"
    refine ⟨fun h1 => ?_, fun h1 => ?_⟩
    · cases x <;> first | (simp [isInt] at h1; done) | skip
      repeat walk_at "je"
      exact q
    · cases x <;> first | (simp [isInt] at h1; done) | exact q
/-- texts that a name may be made of are not too long -/
def Short (x : PyData) : Prop := ∀ y, x = .str y → y.length ≤ 16777216
abbrev S_is_name : List B → Rs → (B → Rs → Prop) → Prop := fun bs t Q => ∃ x, bs = [.d x] ∧ Short x ∧ Q (.d (.bool (isName x))) t
structure Ga (K : PySem.W.Frag) (w : World) (mg : Str → Option Value) : Prop where
  letters : ∃ tk, mg "LETTERS" = some (.str abc tk)
  longest : ∃ tk, mg "LONGEST_NAME" = some (.int 8 tk)
theorem ok_is_name {Wo : WO} {f : Addr} {fd : FuncData} {k : Nat} (F : Fun K "is_name" "is_name" s_is_name f fd) (u : Bu mg) (g : Ga K w mg) : FnOk P w K mg base CX0 (k + 1) f fd ["thing"] (spD K Wo 1 S_is_name) :=
  okD F sc_is_name rfl fun cdv A outer s H E M bs t Q hr hl h => by
    obtain ⟨x, rfl, sh, q⟩ := h
    obtain ⟨tk1, g1⟩ := g.letters
    obtain ⟨tk2, g2⟩ := g.longest
    have nd := sc_is_name.nd
    repeat walk_at "je"
    rw [isi_str]
    refine ⟨fun h1 => ?_, fun h1 => ?_⟩
    · have : isStr x = true := by simpa using h1
      cases x with
      | str y =>
        repeat walk_at "je"
        refine jt_chain op_le op_le ?_
        repeat walk_at "je"
        refine ⟨sh y rfl, ?_⟩
        repeat walk_at "je"
        refine ⟨fun h2 => ?_, fun h2 => ?_⟩
        · refine ⟨fun _ => ?_, fun z => by cases z⟩
          repeat walk_at "je"
          have : isName (.str y) = false := by
            have h2' := of_decide_eq_false h2
            simp only [isName, nameS]
            rw [decide_eq_false (by omega), Bool.false_and]
          rw [this] at q
          exact q
        · refine jd_glob (v := .int 8) g2 ⟨_, rfl⟩ (fun _ => .int 8) ?_
          repeat walk_at "je"
          refine ⟨fun h3 => ?_, fun h3 => ?_⟩
          · repeat walk_at "je"
            have : isName (.str y) = false := by
              have h3' : ¬ ((y.length : Int) ≤ 8) := by simpa using h3
              simp only [isName, nameS]
              rw [decide_eq_false (by omega), Bool.false_and]
            rw [this] at q
            exact q
          · have h2' := of_decide_eq_true h2
            have h3' : (y.length : Int) ≤ 8 := by simpa using h3
            refine jss_ret (jd_all u rfl (JL.toD (jl_map (own := [("letter", 1)]) (g := gName 1) (fun x => .bool (sgnOk x)) rfl nd (blkOk_by (N := ["thing", "letter"]) (sc := defScope s_is_name) (by decide +kernel)) wipes1 (fun _ _ _ _ _ => pg_name (i := 1) nd rfl (Or.inl rfl)) (ji_str ?_))))
            repeat walk_at "je"
            have hlen : y.cps.toList.length = y.length := by simp [Str.length]
            refine ⟨⟨by simp only [sgnD, List.length_map]; omega, fun x hx => ?_⟩, y.cps.toList.map fun c => decide (97 ≤ c ∧ c ≤ 122), ?_, ?_⟩
            · obtain ⟨c, _, rfl⟩ := List.mem_map.mp hx
              refine dg_name fun s0 H0 C cl fp => ?_
              refine jd_inS ?_
              repeat walk_at "je"
              refine jd_glob (v := .str abc) g1 ⟨_, rfl⟩ (fun _ => .str abc) ?_
              repeat walk_at "je"
              rw [in_abc]
              refine ⟨?_, rfl⟩
              simp [sgnOk]
            · simp [sgnD, sgnOk, Function.comp_def]
            · have : (List.map (fun c => decide (97 ≤ c ∧ c ≤ 122)) y.cps.toList).all id = isName (.str y) := by
                simp only [isName, nameS]
                rw [decide_eq_true (show 1 ≤ y.length ∧ y.length ≤ 8 by omega), Bool.true_and, List.all_map]
                rfl
              rw [this]
              exact q
      | _ => simp [isStr] at this
    · have : isName x = false := by cases x <;> first | rfl | (simp [isStr] at h1)
      refine ⟨fun _ => ?_, fun z => by cases z⟩
      repeat walk_at "je"
      rw [this] at q
      exact q
end
end K01
end
section
set_option maxRecDepth 100000
set_option maxHeartbeats 4000000
namespace K01
open PySem PySem.Spec PyProof.Rows L2 Dl

local macro_rules | `(tactic| walk_at "nm") => `(tactic| first | refine jd_name 0 rfl ?_ | refine jd_name 1 rfl ?_ | refine jd_name 2 rfl ?_ | refine jd_name 3 rfl ?_ | refine jd_name 4 rfl ?_ | refine jd_name 5 rfl ?_ | refine jd_name 6 rfl ?_ | refine jd_name 7 rfl ?_ | refine jd_name 8 rfl ?_ | refine jd_name 9 rfl ?_ | refine jd_name 10 rfl ?_ | refine jd_name 11 rfl ?_ | refine jd_name 12 rfl ?_ | refine jd_name 13 rfl ?_)
local macro_rules | `(tactic| walk_at "sub") => `(tactic| fail)
local macro_rules | `(tactic| walk_at "call") => `(tactic| first | refine jd_len (by assumption) ?_ | refine jd_intc (by assumption) ?_ | refine jd_tupc (by assumption) ?_)
local macro_rules | `(tactic| walk_at "cmp") => `(tactic| first | refine jd_eq (by assumption) ?_ | refine jd_ne (by assumption) ?_)
local macro_rules | `(tactic| walk_at "cmpT") => `(tactic| first | refine jt_eq (by assumption) ?_ | refine jt_ne (by assumption) ?_)
local macro_rules | `(tactic| walk_at "callT") => `(tactic| refine jt_val ?_)
local macro_rules | `(tactic| walk_at "je") => `(tactic| first
  | with_reducible refine ⟨_, rfl, ?_⟩
  | (refine g_name ?_; walk_at "nm") | refine jd_int ?_ | refine jd_str ?_
  | (refine g_args ?_; refine ja_cons ?_) | refine ja_nil ?_ | refine jd_tup ?_
  | (refine g_call ?_; walk_at "call") | (refine g_sub ?_; walk_at "sub")
  | refine jd_add ?_ | refine jd_sub ?_ | refine jd_mul ?_ | refine jd_fdiv ?_ | refine jd_mod ?_ | refine jd_pow ?_
  | refine jt_lt ?_ | refine jt_le ?_ | refine jt_gt ?_ | refine jt_ge ?_ | refine jt_isN ?_ | refine jt_notN ?_ | refine jt_not ?_ | refine jw_and ?_ | refine jw_or ?_ | refine jw_and1 ?_ | refine jw_or1 ?_
  | (refine g_cmpT ?_; walk_at "cmpT") | (refine g_callT ?_; walk_at "callT")
  | refine jd_lt ?_ | refine jd_le ?_ | refine jd_gt ?_ | refine jd_ge ?_ | refine jd_isN ?_ | refine jd_notN ?_ | (refine g_cmp ?_; walk_at "cmp")
  | refine jd_bl ?_ | refine jd_non ?_
  | refine jd_if ?_ | refine jd_and ?_ | refine jd_or ?_ | refine jd_one ?_ | refine jd_not ?_ | refine jd_neg ?_
  | refine jo_none ?_ | refine jo_some ?_
  | refine jss_nil ?_ | refine jss_ret ?_ | refine jss_if0 ?_ | refine jss_if ?_ | refine jt_bop ?_
  | with_reducible refine And.intro (by assumption) ?_ | refine And.intro (show List.length _ = _ from rfl) ?_ | refine And.intro (Or.inl (by decide)) ?_ | refine And.intro (by decide : _ ≠ _) ?_ | refine And.intro ⟨by decide, by decide⟩ ?_ | refine And.intro ⟨by decide, by decide, by decide⟩ ?_
  | (dsimp only; first | refine jss_nil ?_ | refine jss_ret ?_))
local macro_rules | `(tactic| walk_at "call") => `(tactic| first | refine jd_isi (T := "int") (Ts := "int") rfl rfl (Bu.isi (by assumption)) rfl (Bu.int (by assumption)) boot_int' (by simp) ?_ | refine jd_isi (T := "bool") (Ts := "bool") rfl rfl (Bu.isi (by assumption)) rfl (Bu.bool (by assumption)) Dl.boot_bool (by simp) ?_ | refine jd_isi (T := "str") (Ts := "str") rfl rfl (Bu.isi (by assumption)) rfl (Bu.str (by assumption)) Dl.boot_str (by simp) ?_ | refine jd_isi (T := "tuple") (Ts := "tuple") rfl rfl (Bu.isi (by assumption)) rfl (Bu.tuple (by assumption)) Dl.boot_tuple (by simp) ?_ | refine jd_isi (T := "list") (Ts := "list") rfl rfl (Bu.isi (by assumption)) rfl (Bu.list (by assumption)) Dl.boot_list (by simp) ?_)
/-! ### data that the law makes: not too large -/
def Gd (x : PyData) : Prop := Fin x ∧ sz x ≤ 50000 ∧ x.depth ≤ 50
theorem Gd.short {x : PyData} (h : Gd x) : Short x := fun y e => by
  have := h.2.1
  rw [e, sz] at this
  omega
theorem Gd.shaped {x : PyData} (h : Gd x) : SeqAt.shaped x = true := shaped_of (Fin.lay x h.1) (by have := h.2.2; omega)
theorem Gd.memT {xs : List PyData} {x : PyData} (h : Gd (.tuple xs)) (m : x ∈ xs) : Gd x := by
  obtain ⟨h1, h2, h3⟩ := h
  refine ⟨FinA_iff.mp h1 x m, ?_, ?_⟩
  · rw [sz] at h2
    have := szA_mem m
    omega
  · simp only [PyData.depth] at h3
    have := dep_mem m
    omega
theorem Gd.memL {xs : List PyData} {x : PyData} (h : Gd (.list xs)) (m : x ∈ xs) : Gd x := by
  obtain ⟨h1, h2, h3⟩ := h
  refine ⟨FinA_iff.mp h1 x m, ?_, ?_⟩
  · rw [sz] at h2
    have := szA_mem m
    omega
  · simp only [PyData.depth] at h3
    have := dep_mem m
    omega
theorem Gd.lenT {xs : List PyData} (h : Gd (.tuple xs)) : xs.length ≤ 50000 := by
  have := h.2.1
  rw [sz] at this
  have := len_szA xs
  omega
theorem Gd.lenL {xs : List PyData} (h : Gd (.list xs)) : xs.length ≤ 50000 := by
  have := h.2.1
  rw [sz] at this
  have := len_szA xs
  omega
theorem shInt (i : Int) : SeqAt.shaped (.int i) = true := rfl
theorem eqvInt (i j : Int) : PyData.eqv (.int i) (.int j) = decide (i = j) := by
  rw [PyData.eqv]
  by_cases h : i = j
  · subst h
    simp
  · rw [decide_eq_false h]
    exact beq_eq_false_iff_ne.mpr h
/-! ### sums -/
def isInts : PyData → Bool
  | .tuple xs => xs.all isInt
  | _ => false
def isSum (m : Int) : PyData → Bool
  | .tuple xs => xs.all isInt && decide ((xs.length : Int) = m)
  | _ => false
def intsOf : PyData → List Int
  | .tuple xs => xs.filterMap fun x => match x with
    | .int i => some i
    | _ => none
  | _ => []
theorem all_ints : ∀ {xs : List PyData}, xs.all isInt = true → xs = (intsOf (.tuple xs)).map PyData.int
  | [], _ => rfl
  | x :: xs, h => by
    rw [List.all_cons, Bool.and_eq_true] at h
    have ih := all_ints h.2
    cases x with
    | int i =>
      simp only [intsOf, List.filterMap_cons] at ih ⊢
      rw [List.map_cons, ← ih]
    | _ => exact absurd h.1 (by simp [isInt])
def asc (nss : List (List Int)) : Bool := (List.range (nss.length - 1)).all fun i => HT.lexLt (nss.getD i []) (nss.getD (i + 1) [])
def isSums (m : Int) : PyData → Bool
  | .tuple xs => xs.all (isSum m) && asc (xs.map intsOf)
  | _ => false
section
variable {P : Program} {w : World} {K : PySem.W.Frag} {mg : Str → Option Value} {base : Heap}
abbrev S_is_integers : List B → Rs → (B → Rs → Prop) → Prop := fun bs t Q => ∃ x, bs = [.d x] ∧ Gd x ∧ Q (.d (.bool (isInts x))) t
theorem ok_is_integers {Wo : WO} {f : Addr} {fd : FuncData} {k : Nat} (F : Fun K "is_integers" "is_integers" s_is_integers f fd) (u : Bu mg) (D1 : Def P w K Wo mg base k "is_integer" 1 S_is_integer) : FnOk P w K mg base CX0 (k + 1) f fd ["thing"] (spD K Wo 1 S_is_integers) :=
  okD F sc_is_integers rfl fun cdv A outer s H E M bs t Q hr hl h => by
    obtain ⟨x, rfl, gd, q⟩ := h
    have nd := sc_is_integers.nd
    repeat walk_at "je"
    rw [isi_tup]
    refine ⟨fun h1 => ?_, fun h1 => ?_⟩
    · cases x with
      | tuple xs =>
        refine jd_one (jd_all u rfl (JL.toD (jl_map (own := [("one", 1)]) (g := gName 1) (fun x => .bool (isInt x)) rfl nd (blkOk_by (N := ["thing", "one"]) (sc := defScope s_is_integers) (by decide +kernel)) wipes1 (fun _ _ _ _ _ => pg_name (i := 1) nd rfl (Or.inl rfl)) (ji_tup ?_))))
        repeat walk_at "je"
        have hlen := gd.lenT
        refine ⟨⟨by omega, fun x hx => ?_⟩, xs.map isInt, by simp, ?_⟩
        · refine dg_name fun s0 H0 C cl fp => jd_call D1 hr (Nat.le_refl _) rfl ?_
          repeat walk_at "je"
          exact ⟨rfl, rfl⟩
        · rw [List.all_map]
          exact q
      | _ => simp [isTup] at h1
    · cases x <;> first | exact q | (simp [isTup] at h1)
abbrev S_is_sum : List B → Rs → (B → Rs → Prop) → Prop := fun bs t Q => ∃ x m, bs = [.d x, .d (.int m)] ∧ Gd x ∧ Q (.d (.bool (isSum m x))) t
def isTupN (m : Int) : PyData → Bool
  | .tuple xs => decide ((xs.length : Int) = m)
  | _ => false
abbrev S_is_tuple : List B → Rs → (B → Rs → Prop) → Prop := fun bs t Q => ∃ x m, bs = [.d x, .d (.int m)] ∧ Gd x ∧ Q (.d (.bool (isTupN m x))) t
theorem ok_is_tuple {Wo : WO} {f : Addr} {fd : FuncData} {k : Nat} (F : Fun K "is_tuple" "is_tuple" s_is_tuple f fd) (u : Bu mg) : FnOk P w K mg base CX0 (k + 1) f fd ["thing", "many"] (spD K Wo 2 S_is_tuple) :=
  okD F sc_is_tuple rfl fun cdv A outer s H E M bs t Q hr hl h => by
    obtain ⟨x, m, rfl, gd, q⟩ := h
    repeat walk_at "je"
    rw [isi_tup]
    refine ⟨fun h1 => ?_, fun h1 => ?_⟩
    · cases x with
      | tuple xs =>
        refine jd_one (jd_eq hr ?_)
        repeat walk_at "je"
        have hlen := gd.lenT
        refine ⟨by omega, ?_⟩
        repeat walk_at "je"
        refine ⟨shInt _, shInt _, ?_⟩
        rw [eqvInt]
        exact q
      | _ => simp [isTup] at h1
    · cases x <;> first | exact q | (simp [isTup] at h1)
theorem ok_is_sum {Wo : WO} {f : Addr} {fd : FuncData} {k : Nat} (F : Fun K "is_sum" "is_sum" s_is_sum f fd) (u : Bu mg) (D0 : Def P w K Wo mg base k "is_tuple" 2 S_is_tuple) (D1 : Def P w K Wo mg base k "is_integers" 1 S_is_integers) : FnOk P w K mg base CX0 (k + 1) f fd ["thing", "many"] (spD K Wo 2 S_is_sum) :=
  okD F sc_is_sum rfl fun cdv A outer s H E M bs t Q hr hl h => by
    obtain ⟨x, m, rfl, gd, q⟩ := h
    refine jss_ret (jd_and (jd_call D0 hr (Nat.le_refl _) rfl ?_))
    repeat walk_at "je"
    refine ⟨x, m, rfl, gd, _, rfl, _, rfl, fun h1 => ?_, fun h1 => ?_⟩
    · cases x with
      | tuple xs =>
        refine jd_one (jd_call D1 hr (Nat.le_refl _) rfl ?_)
        repeat walk_at "je"
        have h1' : decide ((xs.length : Int) = m) = true := h1
        have : isSum m (.tuple xs) = isInts (.tuple xs) := by
          simp only [isSum, isInts, h1', Bool.and_true]
        rw [this] at q
        exact q
      | _ => simp [isTupN] at h1
    · have : isSum m x = false := by
        cases x with
        | tuple xs =>
          have h1' : decide ((xs.length : Int) = m) = false := h1
          simp only [isSum, h1', Bool.and_false]
        | _ => rfl
      rw [this] at q
      exact q
abbrev S_is_ascending : List B → Rs → (B → Rs → Prop) → Prop := fun bs t Q => ∃ nss : List (List Int), bs = [.d (.tuple (nss.map fun ns => .tuple (ns.map PyData.int)))] ∧ nss.length ≤ 50000 ∧ Q (.d (.bool (asc nss))) t
theorem ok_is_ascending {Wo : WO} {f : Addr} {fd : FuncData} {k : Nat} (F : Fun K "is_ascending" "is_ascending" s_is_ascending f fd) (u : Bu mg) : FnOk P w K mg base CX0 (k + 1) f fd ["things"] (spD K Wo 1 S_is_ascending) :=
  okD F sc_is_ascending rfl fun cdv A outer s H E M bs t Q hr hl h => by
    obtain ⟨nss, rfl, hlen, q⟩ := h
    have nd := sc_is_ascending.nd
    refine jss_ret (jd_all u rfl (JL.toD (jl_map (own := [("at", 1)]) (g := gName 1) (fun x => match x with | .int j => .bool (HT.lexLt (nss.getD (j - 1).toNat []) (nss.getD j.toNat [])) | _ => .none) rfl nd (blkOk_by (N := ["things", "at"]) (sc := defScope s_is_ascending) (by decide +kernel)) wipes1 (fun _ _ _ _ _ => pg_name (i := 1) nd rfl (Or.inl rfl)) (ji_rng2 rfl u.range ?_))))
    repeat walk_at "je"
    refine ⟨by rw [List.length_map]; omega, ?_⟩
    repeat walk_at "je"
    rw [List.length_map]
    refine ⟨⟨by decide, by decide, by omega, by omega⟩, ⟨by rw [rngD_len]; omega, fun x hx => ?_⟩, (List.range (nss.length - 1)).map fun i => HT.lexLt (nss.getD i []) (nss.getD (i + 1) []), ?_, ?_⟩
    · obtain ⟨i, hi, rfl⟩ := List.mem_map.mp hx
      have hi' : i < nss.length - 1 := by
        have := List.mem_range.mp hi
        omega
      refine dg_name fun s0 H0 C cl fp => ?_
      refine jd_ltT hr (jd_ixT ?_)
      repeat walk_at "je"
      have a1 : nss[i]? = some (nss.getD i []) := by rw [List.getElem?_eq_getElem (by omega)]; simp [List.getD, List.getElem?_eq_getElem (show i < nss.length by omega)]
      have a2 : nss[i + 1]? = some (nss.getD (i + 1) []) := by rw [List.getElem?_eq_getElem (by omega)]; simp [List.getD, List.getElem?_eq_getElem (show i + 1 < nss.length by omega)]
      refine ⟨_, .tuple ((nss.getD i []).map PyData.int), rfl, ?_, nss.getD i [], rfl, jd_ixT ?_⟩
      · have e : (1 + (i : Int) - 1) = ((i : Nat) : Int) := by omega
        rw [e]
        refine atI_nat ?_
        rw [List.getElem?_map, a1]
        rfl
      · repeat walk_at "je"
        refine ⟨_, .tuple ((nss.getD (i + 1) []).map PyData.int), rfl, ?_, nss.getD (i + 1) [], rfl, ?_, rfl⟩
        · have e : (1 + (i : Int)) = ((i + 1 : Nat) : Int) := by omega
          rw [e]
          refine atI_nat ?_
          rw [List.getElem?_map, a2]
          rfl
        · have e1 : (1 + (i : Int) - 1).toNat = i := by omega
          have e2 : (1 + (i : Int)).toNat = i + 1 := by omega
          show _ = PyData.bool (HT.lexLt (nss.getD (1 + (i : Int) - 1).toNat []) (nss.getD (1 + (i : Int)).toNat []))
          rw [e1, e2]
    · have e : ((nss.length : Int) - 1).toNat = nss.length - 1 := by omega
      rw [e]
      simp only [rngD, List.map_map]
      refine congrArg PyData.list (List.map_congr_left fun i _ => ?_)
      have e1 : (1 + (i : Int) - 1).toNat = i := by omega
      have e2 : (1 + (i : Int)).toNat = i + 1 := by omega
      show PyData.bool (HT.lexLt (nss.getD (1 + (i : Int) - 1).toNat []) (nss.getD (1 + (i : Int)).toNat [])) = _
      rw [e1, e2]
      rfl
    · rw [List.all_map]
      exact q
end
end K01
end
section
set_option maxRecDepth 100000
set_option maxHeartbeats 4000000
namespace K01
open PySem PySem.Spec PyProof.Rows L2 Dl

local macro_rules | `(tactic| walk_at "nm") => `(tactic| first | refine jd_name 0 rfl ?_ | refine jd_name 1 rfl ?_ | refine jd_name 2 rfl ?_ | refine jd_name 3 rfl ?_ | refine jd_name 4 rfl ?_ | refine jd_name 5 rfl ?_ | refine jd_name 6 rfl ?_ | refine jd_name 7 rfl ?_ | refine jd_name 8 rfl ?_ | refine jd_name 9 rfl ?_ | refine jd_name 10 rfl ?_ | refine jd_name 11 rfl ?_ | refine jd_name 12 rfl ?_ | refine jd_name 13 rfl ?_)
local macro_rules | `(tactic| walk_at "sub") => `(tactic| fail)
local macro_rules | `(tactic| walk_at "call") => `(tactic| first | refine jd_len (by assumption) ?_ | refine jd_intc (by assumption) ?_ | refine jd_tupc (by assumption) ?_)
local macro_rules | `(tactic| walk_at "cmp") => `(tactic| first | refine jd_eq (by assumption) ?_ | refine jd_ne (by assumption) ?_)
local macro_rules | `(tactic| walk_at "cmpT") => `(tactic| first | refine jt_eq (by assumption) ?_ | refine jt_ne (by assumption) ?_)
local macro_rules | `(tactic| walk_at "callT") => `(tactic| refine jt_val ?_)
local macro_rules | `(tactic| walk_at "je") => `(tactic| first
  | with_reducible refine ⟨_, rfl, ?_⟩
  | (refine g_name ?_; walk_at "nm") | refine jd_int ?_ | refine jd_str ?_
  | (refine g_args ?_; refine ja_cons ?_) | refine ja_nil ?_ | refine jd_tup ?_
  | (refine g_call ?_; walk_at "call") | (refine g_sub ?_; walk_at "sub")
  | refine jd_add ?_ | refine jd_sub ?_ | refine jd_mul ?_ | refine jd_fdiv ?_ | refine jd_mod ?_ | refine jd_pow ?_
  | refine jt_lt ?_ | refine jt_le ?_ | refine jt_gt ?_ | refine jt_ge ?_ | refine jt_isN ?_ | refine jt_notN ?_ | refine jt_not ?_ | refine jw_and ?_ | refine jw_or ?_ | refine jw_and1 ?_ | refine jw_or1 ?_
  | (refine g_cmpT ?_; walk_at "cmpT") | (refine g_callT ?_; walk_at "callT")
  | refine jd_lt ?_ | refine jd_le ?_ | refine jd_gt ?_ | refine jd_ge ?_ | refine jd_isN ?_ | refine jd_notN ?_ | (refine g_cmp ?_; walk_at "cmp")
  | refine jd_bl ?_ | refine jd_non ?_
  | refine jd_if ?_ | refine jd_and ?_ | refine jd_or ?_ | refine jd_one ?_ | refine jd_not ?_ | refine jd_neg ?_
  | refine jo_none ?_ | refine jo_some ?_
  | refine jss_nil ?_ | refine jss_ret ?_ | refine jss_if0 ?_ | refine jss_if ?_ | refine jt_bop ?_
  | with_reducible refine And.intro (by assumption) ?_ | refine And.intro (show List.length _ = _ from rfl) ?_ | refine And.intro (Or.inl (by decide)) ?_ | refine And.intro (by decide : _ ≠ _) ?_ | refine And.intro ⟨by decide, by decide⟩ ?_ | refine And.intro ⟨by decide, by decide, by decide⟩ ?_
  | (dsimp only; first | refine jss_nil ?_ | refine jss_ret ?_))
local macro_rules | `(tactic| walk_at "call") => `(tactic| first | refine jd_isi (T := "int") (Ts := "int") rfl rfl (Bu.isi (by assumption)) rfl (Bu.int (by assumption)) boot_int' (by simp) ?_ | refine jd_isi (T := "bool") (Ts := "bool") rfl rfl (Bu.isi (by assumption)) rfl (Bu.bool (by assumption)) Dl.boot_bool (by simp) ?_ | refine jd_isi (T := "str") (Ts := "str") rfl rfl (Bu.isi (by assumption)) rfl (Bu.str (by assumption)) Dl.boot_str (by simp) ?_ | refine jd_isi (T := "tuple") (Ts := "tuple") rfl rfl (Bu.isi (by assumption)) rfl (Bu.tuple (by assumption)) Dl.boot_tuple (by simp) ?_ | refine jd_isi (T := "list") (Ts := "list") rfl rfl (Bu.isi (by assumption)) rfl (Bu.list (by assumption)) Dl.boot_list (by simp) ?_)
/-! ### expressions by form -/
def wordsS (k : Bool) : List Str := if k = true then ["item", "+", "-", "*"] else ["=", "<", "and", "or", "not"]
def joinS : List Str := ["and", "or", "not"]
def wordsD (k : Bool) : PyData := .tuple ((wordsS k).map PyData.str)
def lenOf (s : Str) : Int := if s = "item" ∨ s = "not" then 2 else 3
def fits (k : Bool) : PyData → Bool
  | .int _ => k
  | .tuple (.str s :: args) => (wordsS k).contains s && decide (((args.length + 1 : Nat) : Int) = lenOf s) && (decide (s ≠ "item") || match args with
    | a :: _ => isName a
    | [] => false)
  | _ => false
/-- the parts that stand right in one -/
def kids : PyData → List PyData
  | .tuple (.str s :: args) => if s = "item" then [] else args
  | _ => []
/-- their kind: is it a number -/
def kidK : PyData → Bool
  | .tuple (.str s :: _) => !joinS.contains s
  | _ => true
def wfN : Nat → Bool → PyData → Bool
  | 0, _, _ => false
  | n + 1, k, x => fits k x && (kids x).all (wfN n (kidK x))
def wf (k : Bool) (x : PyData) : Bool := wfN (sz x) k x
theorem kids_sz {x a : PyData} (h : a ∈ kids x) : sz a < sz x := by
  cases x with
  | tuple xs =>
    cases xs with
    | nil => exact absurd h List.not_mem_nil
    | cons y args =>
      cases y with
      | str s =>
        simp only [kids] at h
        split at h
        · exact absurd h List.not_mem_nil
        · have := szA_mem h
          simp only [sz, szA]
          omega
      | _ => exact absurd h List.not_mem_nil
  | _ => exact absurd h List.not_mem_nil
theorem all_congr' {α : Type} {p q : α → Bool} : ∀ {xs : List α}, (∀ x ∈ xs, p x = q x) → xs.all p = xs.all q
  | [], _ => rfl
  | x :: xs, h => by
    rw [List.all_cons, List.all_cons, h x List.mem_cons_self, all_congr' fun y hy => h y (List.mem_cons_of_mem _ hy)]
theorem wfN_eq : ∀ (n m : Nat) (k : Bool) (x : PyData), sz x ≤ n → sz x ≤ m → wfN n k x = wfN m k x
  | 0, _, _, x, h, _ => by have := sz_pos x; omega
  | n + 1, 0, _, x, _, h => by have := sz_pos x; omega
  | n + 1, m + 1, k, x, h1, h2 => by
    simp only [wfN]
    congr 1
    exact all_congr' fun a ha => wfN_eq n m _ a (by have := kids_sz ha; omega) (by have := kids_sz ha; omega)
theorem wf_eq (k : Bool) (x : PyData) : wf k x = (fits k x && (kids x).all (wf (kidK x))) := by
  have e : wf k x = wfN (sz x + 1) k x := wfN_eq _ _ k x (Nat.le_refl _) (Nat.le_succ _)
  rw [e, wfN]
  congr 1
  exact all_congr' fun a ha => wfN_eq _ _ _ a (Nat.le_of_lt (kids_sz ha)) (Nat.le_refl _)
theorem eqvStr (a b : Str) : PyData.eqv (.str a) (.str b) = decide (a = b) := by
  rw [PyData.eqv]
  by_cases h : a = b
  · subst h
    simp
  · rw [decide_eq_false h]
    exact beq_eq_false_iff_ne.mpr h
def strIn (ws : List Str) : PyData → Bool
  | .str s => ws.contains s
  | _ => false
theorem any_str (ws : List Str) (x : PyData) : ((ws.map PyData.str).any fun z => PyData.eqv z x) = strIn ws x := by
  induction ws with
  | nil => cases x <;> rfl
  | cons a r ih =>
    rw [List.map_cons, List.any_cons, ih]
    cases x with
    | str s =>
      rw [eqvStr]
      simp only [strIn, List.contains_cons]
      congr 1
      by_cases h : a = s
      · subst h
        simp
      · rw [decide_eq_false h]
        exact (beq_eq_false_iff_ne.mpr (Ne.symm h)).symm
    | _ => simp [strIn, PyData.eqv]
theorem sh_strs : ∀ {ws : List Str}, (∀ y ∈ ws, ∀ c ∈ y.cps.toList, c < 128) → SeqAt.shaped (.tuple (ws.map PyData.str)) = true := fun {ws} h => by
  refine shaped_of ?_ ?_
  · simp only [PyData.canLay0]
    exact FinA.lay _ (FinA_iff.mpr fun x hx => by
      obtain ⟨y, hy, rfl⟩ := List.mem_map.mp hx
      exact h y hy)
  · simp only [PyData.depth]
    have : PyData.depthAll (ws.map PyData.str) ≤ 0 := depA_le fun x hx => by
      obtain ⟨y, hy, rfl⟩ := List.mem_map.mp hx
      simp only [PyData.depth]
      omega
    omega
theorem sh_words (k : Bool) : SeqAt.shaped (.tuple ((wordsS k).map PyData.str)) = true := sh_strs (by cases k <;> decide +kernel)
theorem sh_join : SeqAt.shaped (.tuple (joinS.map PyData.str)) = true := sh_strs (by decide +kernel)
structure Gc (K : PySem.W.Frag) (w : World) (mg : Str → Option Value) : Prop where
  cw : ∃ a, mg "COUNT_WORDS" = some (.ref a) ∧ ∀ G, De K G (.ref a) (wordsD true)
  rw : ∃ a, mg "RULE_WORDS" = some (.ref a) ∧ ∀ G, De K G (.ref a) (wordsD false)
  jw : ∃ a, mg "JOINING_WORDS" = some (.ref a) ∧ ∀ G, De K G (.ref a) (.tuple (joinS.map PyData.str))
  len : ∃ a, mg "LENGTHS" = some (.ref a) ∧ ∀ k s, s ∈ wordsS k → KDct K w a s (.int (lenOf s))
section
variable {P : Program} {w : World} {K : PySem.W.Frag} {mg : Str → Option Value} {base : Heap}
abbrev S_is_sums : List B → Rs → (B → Rs → Prop) → Prop := fun bs t Q => ∃ x m, bs = [.d x, .d (.int m)] ∧ Gd x ∧ Q (.d (.bool (isSums m x))) t
theorem sums_ints {xs : List PyData} {m : Int} (h : xs.all (isSum m) = true) : xs = (xs.map intsOf).map fun ns => .tuple (ns.map PyData.int) := by
  rw [List.map_map]
  conv => lhs; rw [← List.map_id xs]
  refine List.map_congr_left fun x hx => ?_
  have h1 := List.all_eq_true.mp h x hx
  cases x with
  | tuple ys =>
    simp only [isSum, Bool.and_eq_true] at h1
    show PyData.tuple ys = .tuple ((intsOf (.tuple ys)).map PyData.int)
    rw [← all_ints h1.1]
  | _ => simp [isSum] at h1
theorem ok_is_sums {Wo : WO} {f : Addr} {fd : FuncData} {k : Nat} (F : Fun K "is_sums" "is_sums" s_is_sums f fd) (u : Bu mg) (D1 : Def P w K Wo mg base k "is_sum" 2 S_is_sum) (D2 : Def P w K Wo mg base k "is_ascending" 1 S_is_ascending) : FnOk P w K mg base CX0 (k + 1) f fd ["thing", "many"] (spD K Wo 2 S_is_sums) :=
  okD F sc_is_sums rfl fun cdv A outer s H E M bs t Q hr hl h => by
    obtain ⟨x, m, rfl, gd, q⟩ := h
    have nd := sc_is_sums.nd
    repeat walk_at "je"
    rw [isi_tup]
    refine ⟨fun h1 => ?_, fun h1 => ?_⟩
    · cases x with
      | tuple xs =>
        have hlen := gd.lenT
        refine jd_and (jd_all u rfl (JL.toD (jl_map (own := [("one", 2)]) (g := gName 2) (fun x => .bool (isSum m x)) rfl nd (blkOk_by (N := ["thing", "many", "one"]) (sc := defScope s_is_sums) (by decide +kernel)) wipes1 (fun _ _ _ _ _ => pg_name (i := 2) nd rfl (Or.inl rfl)) (ji_tup ?_))))
        repeat walk_at "je"
        refine ⟨⟨by omega, fun x hx => ?_⟩, xs.map (isSum m), by simp, _, rfl, fun h2 => ?_, fun h2 => ?_⟩
        · refine dg_name fun s0 H0 C cl fp => jd_call D1 hr (Nat.le_refl _) rfl ?_
          repeat walk_at "je"
          exact ⟨x, m, rfl, gd.memT hx, _, rfl, rfl, rfl⟩
        · rw [List.all_map] at h2
          have h2' : xs.all (isSum m) = true := h2
          refine jd_one (jd_call D2 hr (Nat.le_refl _) rfl ?_)
          repeat walk_at "je"
          refine ⟨xs.map intsOf, by rw [← sums_ints h2'], by rw [List.length_map]; omega, _, rfl, ?_⟩
          have e : isSums m (.tuple xs) = asc (xs.map intsOf) := by simp only [isSums, h2', Bool.true_and]
          rw [e] at q
          exact q
        · rw [List.all_map] at h2
          have h2' : xs.all (isSum m) = false := h2
          have e : isSums m (.tuple xs) = false := by simp only [isSums, h2', Bool.false_and]
          rw [e] at q
          exact q
      | _ => simp [isTup] at h1
    · cases x <;> first | exact q | (simp [isTup] at h1)
abbrev S_inner_words : List B → Rs → (B → Rs → Prop) → Prop := fun bs t Q => ∃ s, bs = [.d (.str s)] ∧ SeqAt.shaped (.str s) = true ∧ Q (.d (wordsD (!joinS.contains s))) t
theorem ok_inner_words {Wo : WO} {f : Addr} {fd : FuncData} {k : Nat} (F : Fun K "inner_words" "inner_words" s_inner_words f fd) (g : Gc K w mg) : FnOk P w K mg base CX0 (k + 1) f fd ["word"] (spD K Wo 1 S_inner_words) :=
  okD F sc_inner_words rfl fun cdv A outer s H E M bs t Q hr hl h => by
    obtain ⟨y, rfl, sh, q⟩ := h
    obtain ⟨a1, g1, d1⟩ := g.cw
    obtain ⟨a2, g2, d2⟩ := g.rw
    obtain ⟨a3, g3, d3⟩ := g.jw
    refine jss_ret (jd_if (jt_inU hr ?_))
    repeat walk_at "je"
    refine jd_glob (v := .ref a3) g3 rfl d3 ?_
    repeat walk_at "je"
    refine ⟨sh_join, ?_⟩
    rw [any_str]
    simp only [strIn]
    refine ⟨fun h1 => ?_, fun h1 => ?_⟩
    · refine jd_glob (v := .ref a2) g2 rfl d2 ?_
      rw [h1] at q
      exact q
    · refine jd_glob (v := .ref a1) g1 rfl d1 ?_
      rw [h1] at q
      exact q
abbrev S_fits : List B → Rs → (B → Rs → Prop) → Prop := fun bs t Q => ∃ x k, bs = [.d x, .d (wordsD k), .d .none] ∧ Gd x ∧ Q (.d (.bool (fits k x))) t
theorem ok_fits {Wo : WO} {f : Addr} {fd : FuncData} {k : Nat} (F : Fun K "_fits" "_fits" s__fits f fd) (u : Bu mg) (g : Gc K w mg) (D1 : Def P w K Wo mg base k "is_integer" 1 S_is_integer) (D2 : Def P w K Wo mg base k "is_name" 1 S_is_name) :
    FnOk P w K mg base CX0 (k + 1) f fd ["part", "words", "names"] (spD K Wo 3 S_fits) :=
  okD F sc__fits rfl fun cdv A outer s H E M bs t Q hr hl h => by
    obtain ⟨x, kk, rfl, gd, q⟩ := h
    obtain ⟨a1, g1, d1⟩ := g.cw
    obtain ⟨a4, g4, d4⟩ := g.len
    refine jss_if0 (jt_val (jd_call D1 hr (Nat.le_refl _) rfl ?_))
    repeat walk_at "je"
    refine ⟨fun h1 => ?_, fun h1 => ?_⟩
    · cases x with
      | int i =>
        refine jss_ret (jd_eq hr ?_)
        repeat walk_at "je"
        refine jd_glob (v := .ref a1) g1 rfl d1 ?_
        refine ⟨sh_words kk, sh_words true, ?_⟩
        have e : PyData.eqv (wordsD kk) (wordsD true) = fits kk (.int i) := by
          show _ = kk
          cases kk <;> decide +kernel
        rw [e]
        exact q
      | _ => simp [isInt] at h1
    · refine jss_if0 (jt_bop (jw_or (jt_not ?_)))
      repeat walk_at "je"
      rw [isi_tup]
      refine ⟨fun h2 => ?_, fun h2 => ?_⟩
      · cases x with
        | tuple xs =>
          refine jw_or (jt_not (jt_tru ?_))
          repeat walk_at "je"
          refine ⟨fun y e => (by cases e), fun h3 => ?_, fun h3 => ?_⟩
          · cases xs with
            | nil => simp [truD] at h3
            | cons x0 args =>
              refine jw_or1 (jt_niU hr (jd_ixT ?_))
              repeat walk_at "je"
              refine ⟨0, x0, rfl, atI_nat (j := 0) rfl, ?_⟩
              repeat walk_at "je"
              refine ⟨(gd.memT List.mem_cons_self).shaped, sh_words kk, ?_⟩
              rw [any_str]
              refine ⟨fun h4 => ?_, fun h4 => ?_⟩
              · repeat walk_at "je"
                have e : fits kk (.tuple (x0 :: args)) = false := by
                  cases x0 with
                  | str s =>
                    have : (wordsS kk).contains s = false := by simpa [strIn] using h4
                    simp only [fits, this, Bool.false_and]
                  | _ => rfl
                rw [e] at q
                exact q
              · cases x0 with
                | str s =>
                  have hin : (wordsS kk).contains s = true := by simpa [strIn] using h4
                  have hmem : s ∈ wordsS kk := by simpa using hin
                  refine jss_if0 (jt_ne hr ?_)
                  repeat walk_at "je"
                  have hlen := gd.lenT
                  refine ⟨by omega, ?_⟩
                  refine jd_kdict g4 (jd_ixT ?_)
                  repeat walk_at "je"
                  refine ⟨0, .str s, rfl, atI_nat (j := 0) rfl, s, lenOf s, rfl, d4 kk s hmem, shInt _, shInt _, ?_⟩
                  rw [eqvInt, List.length_cons]
                  refine ⟨fun h5 => ?_, fun h5 => ?_⟩
                  · repeat walk_at "je"
                    have h5' : decide (((args.length + 1 : Nat) : Int) = lenOf s) = false := by simpa using h5
                    have e : fits kk (.tuple (.str s :: args)) = false := by simp only [fits, h5', Bool.and_false, Bool.false_and]
                    rw [e] at q
                    exact q
                  · have h5' : decide (((args.length + 1 : Nat) : Int) = lenOf s) = true := by simpa using h5
                    have hs0 := (gd.memT (x := .str s) List.mem_cons_self).shaped
                    refine jss_ret (jd_or (jd_ne hr (jd_ixT ?_)))
                    repeat walk_at "je"
                    refine ⟨0, .str s, rfl, atI_nat (j := 0) rfl, ?_⟩
                    repeat walk_at "je"
                    refine ⟨by decide +kernel, ?_⟩
                    rw [eqvStr]
                    repeat walk_at "je"
                    refine ⟨fun h6 => ?_, fun h6 => ?_⟩
                    · have hs : s = "item" := by simpa using h6
                      cases args with
                      | nil =>
                        exfalso
                        rw [hs] at h5'
                        revert h5'
                        decide +kernel
                      | cons a r =>
                        refine jd_one (jd_and (jd_call D2 hr (Nat.le_refl _) rfl (ja_cons (jd_ixT ?_))))
                        repeat walk_at "je"
                        refine ⟨1, a, rfl, atI_nat (j := 1) rfl, ?_⟩
                        repeat walk_at "je"
                        refine ⟨(gd.memT (x := a) (by simp)).short, _, rfl, _, rfl, fun h7 => ?_, fun h7 => ?_⟩
                        · refine jd_one (jd_or ?_)
                          repeat walk_at "je"
                          refine ⟨fun z => (by cases z), fun _ => ?_⟩
                          have e : fits kk (.tuple (.str s :: a :: r)) = true := by simp only [fits, hin, h5', h7, Bool.and_true, Bool.or_true]
                          rw [e] at q
                          exact q
                        · have e : fits kk (.tuple (.str s :: a :: r)) = false := by
                            simp only [fits, h7, Bool.or_false]
                            have e0 : decide (s ≠ "item") = false := decide_eq_false (fun z => z hs)
                            rw [e0, Bool.and_false]
                          rw [e] at q
                          exact q
                    · have e : fits kk (.tuple (.str s :: args)) = true := by
                        have : decide (s ≠ "item") = true := by simpa using h6
                        simp only [fits, hin, h5', this, Bool.true_or, Bool.and_true]
                      rw [e] at q
                      exact q
                | _ => simp [strIn] at h4
          · cases xs with
            | nil =>
              refine ⟨fun _ => ?_, fun z => (by cases z)⟩
              repeat walk_at "je"
              exact q
            | cons => simp [truD] at h3
        | _ => simp [isTup] at h2
      · refine ⟨fun _ => ?_, fun z => (by cases z)⟩
        repeat walk_at "je"
        cases x with
        | tuple xs => simp [isTup] at h2
        | int i => simp [isInt] at h1
        | _ => exact q
end
end K01
end
section
set_option maxRecDepth 100000
set_option maxHeartbeats 4000000
namespace K01
open PySem PySem.Spec PyProof.Rows L2 Dl

local macro_rules | `(tactic| walk_at "nm") => `(tactic| first | refine jd_name 0 rfl ?_ | refine jd_name 1 rfl ?_ | refine jd_name 2 rfl ?_ | refine jd_name 3 rfl ?_ | refine jd_name 4 rfl ?_ | refine jd_name 5 rfl ?_ | refine jd_name 6 rfl ?_ | refine jd_name 7 rfl ?_ | refine jd_name 8 rfl ?_ | refine jd_name 9 rfl ?_ | refine jd_name 10 rfl ?_ | refine jd_name 11 rfl ?_ | refine jd_name 12 rfl ?_ | refine jd_name 13 rfl ?_)
local macro_rules | `(tactic| walk_at "sub") => `(tactic| fail)
local macro_rules | `(tactic| walk_at "call") => `(tactic| first | refine jd_len (by assumption) ?_ | refine jd_intc (by assumption) ?_ | refine jd_tupc (by assumption) ?_)
local macro_rules | `(tactic| walk_at "cmp") => `(tactic| first | refine jd_eq (by assumption) ?_ | refine jd_ne (by assumption) ?_)
local macro_rules | `(tactic| walk_at "cmpT") => `(tactic| first | refine jt_eq (by assumption) ?_ | refine jt_ne (by assumption) ?_)
local macro_rules | `(tactic| walk_at "callT") => `(tactic| refine jt_val ?_)
local macro_rules | `(tactic| walk_at "je") => `(tactic| first
  | with_reducible refine ⟨_, rfl, ?_⟩
  | (refine g_name ?_; walk_at "nm") | refine jd_int ?_ | refine jd_str ?_
  | (refine g_args ?_; refine ja_cons ?_) | refine ja_nil ?_ | refine jd_tup ?_
  | (refine g_call ?_; walk_at "call") | (refine g_sub ?_; walk_at "sub")
  | refine jd_add ?_ | refine jd_sub ?_ | refine jd_mul ?_ | refine jd_fdiv ?_ | refine jd_mod ?_ | refine jd_pow ?_
  | refine jt_lt ?_ | refine jt_le ?_ | refine jt_gt ?_ | refine jt_ge ?_ | refine jt_isN ?_ | refine jt_notN ?_ | refine jt_not ?_ | refine jw_and ?_ | refine jw_or ?_ | refine jw_and1 ?_ | refine jw_or1 ?_
  | (refine g_cmpT ?_; walk_at "cmpT") | (refine g_callT ?_; walk_at "callT")
  | refine jd_lt ?_ | refine jd_le ?_ | refine jd_gt ?_ | refine jd_ge ?_ | refine jd_isN ?_ | refine jd_notN ?_ | (refine g_cmp ?_; walk_at "cmp")
  | refine jd_bl ?_ | refine jd_non ?_
  | refine jd_if ?_ | refine jd_and ?_ | refine jd_or ?_ | refine jd_one ?_ | refine jd_not ?_ | refine jd_neg ?_
  | refine jo_none ?_ | refine jo_some ?_
  | refine jss_nil ?_ | refine jss_ret ?_ | refine jss_if0 ?_ | refine jss_if ?_ | refine jt_bop ?_
  | with_reducible refine And.intro (by assumption) ?_ | refine And.intro (show List.length _ = _ from rfl) ?_ | refine And.intro (Or.inl (by decide)) ?_ | refine And.intro (by decide : _ ≠ _) ?_ | refine And.intro ⟨by decide, by decide⟩ ?_ | refine And.intro ⟨by decide, by decide, by decide⟩ ?_
  | (dsimp only; first | refine jss_nil ?_ | refine jss_ret ?_))
local macro_rules | `(tactic| walk_at "call") => `(tactic| first | refine jd_isi (T := "int") (Ts := "int") rfl rfl (Bu.isi (by assumption)) rfl (Bu.int (by assumption)) boot_int' (by simp) ?_ | refine jd_isi (T := "bool") (Ts := "bool") rfl rfl (Bu.isi (by assumption)) rfl (Bu.bool (by assumption)) Dl.boot_bool (by simp) ?_ | refine jd_isi (T := "str") (Ts := "str") rfl rfl (Bu.isi (by assumption)) rfl (Bu.str (by assumption)) Dl.boot_str (by simp) ?_ | refine jd_isi (T := "tuple") (Ts := "tuple") rfl rfl (Bu.isi (by assumption)) rfl (Bu.tuple (by assumption)) Dl.boot_tuple (by simp) ?_ | refine jd_isi (T := "list") (Ts := "list") rfl rfl (Bu.isi (by assumption)) rfl (Bu.list (by assumption)) Dl.boot_list (by simp) ?_)
/-! ### the parts in a part, and the first wrong one -/
def innerE (ps : List PyData) (x : PyData) : List (List PyData × PyData × Bool) := (kids x).mapIdx fun i a => (ps ++ [.int ((i + 1 : Nat) : Int)], a, kidK x)
def entP (e : List PyData × PyData × Bool) : PyData := .tuple [.tuple e.1, e.2.1]
def entD (e : List PyData × PyData × Bool) : PyData := .tuple [.tuple e.1, e.2.1, wordsD e.2.2]
theorem fits_true {x : PyData} {k : Bool} (h : fits k x = true) : (∃ i, x = .int i) ∨ ∃ s args, x = .tuple (.str s :: args) := by
  cases x with
  | int i => exact .inl ⟨i, rfl⟩
  | tuple xs =>
    cases xs with
    | nil => simp [fits] at h
    | cons y args =>
      cases y with
      | str s => exact .inr ⟨s, args, rfl⟩
      | _ => simp [fits] at h
  | _ => simp [fits] at h
theorem kids_gd {x a : PyData} (h : Gd x) (m : a ∈ kids x) : Gd a := by
  cases x with
  | tuple xs =>
    cases xs with
    | nil => exact absurd m List.not_mem_nil
    | cons y args =>
      cases y with
      | str s =>
        simp only [kids] at m
        split at m
        · exact absurd m List.not_mem_nil
        · exact h.memT (List.mem_cons_of_mem _ m)
      | _ => exact absurd m List.not_mem_nil
  | _ => exact absurd m List.not_mem_nil
theorem kids_dep {x a : PyData} (m : a ∈ kids x) : a.depth < x.depth := by
  cases x with
  | tuple xs =>
    cases xs with
    | nil => exact absurd m List.not_mem_nil
    | cons y args =>
      cases y with
      | str s =>
        simp only [kids] at m
        split at m
        · exact absurd m List.not_mem_nil
        · simp only [PyData.depth]
          have := dep_mem (List.mem_cons_of_mem (.str s) m)
          omega
      | _ => exact absurd m List.not_mem_nil
  | _ => exact absurd m List.not_mem_nil
section
variable {P : Program} {w : World} {K : PySem.W.Frag} {mg : Str → Option Value} {base : Heap}
abbrev S_inner_parts : List B → Rs → (B → Rs → Prop) → Prop := fun bs t Q => ∃ ps x, bs = [.d (.tuple ps), .d x] ∧ ps.length ≤ 1000 ∧ Gd x ∧ (∃ k, fits k x = true) ∧ Q (.own ((innerE ps x).map entP)) t
theorem ok_inner_parts {Wo : WO} {f : Addr} {fd : FuncData} {k : Nat} (F : Fun K "_inner_parts" "_inner_parts" s__inner_parts f fd) (u : Bu mg) (D1 : Def P w K Wo mg base k "is_integer" 1 S_is_integer) : FnOk P w K mg base CX0 (k + 1) f fd ["path", "part"] (spD K Wo 2 S_inner_parts) :=
  okD F sc__inner_parts rfl fun cdv A outer s H E M bs t Q hr hl h => by
    obtain ⟨ps, x, rfl, hps, gd, ⟨kk, hf⟩, q⟩ := h
    have nd := sc__inner_parts.nd
    refine jss_if0 (jt_bop (jw_or (jt_val (jd_call D1 hr (Nat.le_refl _) rfl ?_))))
    repeat walk_at "je"
    have stop : kids x = [] → JSs M (X := Xo P w K mg base ["path", "part", "at"] "_inner_parts" s__inner_parts f cdv A outer s H E) [Stmt.Return (some (Expr.List [] ⟨39, 15, 39, 17⟩)) ⟨39, 8, 39, 17⟩] [.d (.tuple ps), .d x, .un] t { nx := fun ρ' t' => JSs M (X := Xo P w K mg base ["path", "part", "at"] "_inner_parts" s__inner_parts f cdv A outer s H E) ((defBody s__inner_parts).drop 1) ρ' t' { nx := fun _ t' => Q (.d .none) t', rt := Q }, rt := Q } := fun e => by
      refine jss_retL (jl_lst (ja_nil ⟨[], rfl, by decide, ?_⟩))
      have e2 : (innerE ps x).map entP = [] := by simp only [innerE, e, List.mapIdx_nil, List.map_nil]
      rw [e2] at q
      exact q
    rcases fits_true hf with ⟨i, rfl⟩ | ⟨s0, args, rfl⟩
    · exact ⟨fun z => (by cases z), fun _ => ⟨fun _ => stop rfl, fun z => (by cases z)⟩⟩
    · refine ⟨fun _ => ?_, fun z => (by cases z)⟩
      have hs0 := (gd.memT (x := .str s0) List.mem_cons_self).shaped
      refine jw_or1 (jt_eq hr (jd_ixT ?_))
      repeat walk_at "je"
      refine ⟨0, .str s0, rfl, atI_nat (j := 0) rfl, ?_⟩
      repeat walk_at "je"
      refine ⟨by decide +kernel, ?_⟩
      rw [eqvStr]
      refine ⟨fun h1 => stop ?_, fun h1 => ?_⟩
      · have h1' : s0 = "item" := of_decide_eq_true h1
        simp only [kids, h1', if_true]
      · have h1' : ¬ s0 = "item" := of_decide_eq_false h1
        have hk : kids (.tuple (.str s0 :: args)) = args := by simp only [kids, if_neg h1']
        have hlen := gd.lenT
        rw [List.length_cons] at hlen
        refine jss_retL (jl_map (own := [("at", 2)]) (g := gName 2) (fun z => match z with | .int j => .tuple [.tuple (ps ++ [.int j]), args.getD (j - 1).toNat .none] | _ => .none) rfl nd (blkOk_by (N := ["path", "part", "at"]) (sc := defScope s__inner_parts) (by decide +kernel)) wipes1 (fun _ _ _ _ _ => pg_name (i := 2) nd rfl (Or.inl rfl)) (ji_rng2 rfl u.range ?_))
        repeat walk_at "je"
        refine ⟨by rw [List.length_cons]; omega, ?_⟩
        repeat walk_at "je"
        rw [List.length_cons]
        refine ⟨⟨by decide, by decide, by omega, by omega⟩, ⟨by rw [rngD_len]; omega, fun z hz => ?_⟩, ?_⟩
        · obtain ⟨i, hi, rfl⟩ := List.mem_map.mp hz
          have hi' : i < args.length := by
            have := List.mem_range.mp hi
            omega
          have ea : args[i]? = some (args.getD i .none) := by simp [List.getD, List.getElem?_eq_getElem hi']
          refine dg_name fun s1 H1 C cl fp => jd_tup (ja_cons (jd_tup (ja_star ?_)))
          repeat walk_at "je"
          refine ⟨ps, .inl rfl, ?_⟩
          repeat walk_at "je"
          refine ⟨ps ++ [.int (1 + (i : Int))], by simp, by rw [List.length_append]; show ps.length + 1 ≤ _; omega, ?_⟩
          refine ja_cons (jd_ixT ?_)
          repeat walk_at "je"
          refine ⟨_, args.getD i .none, rfl, ?_, ?_⟩
          · have e : (1 + (i : Int)) = ((i + 1 : Nat) : Int) := by omega
            rw [e]
            exact atI_nat (by rw [List.getElem?_cons_succ]; exact ea)
          · repeat walk_at "je"
            refine ⟨[.tuple (ps ++ [.int (1 + (i : Int))]), args.getD i .none], rfl, (by show 2 ≤ 16777216; decide), ?_, rfl⟩
            have e1 : (1 + (i : Int) - 1).toNat = i := by omega
            show _ = PyData.tuple [.tuple (ps ++ [.int (1 + (i : Int))]), args.getD (1 + (i : Int) - 1).toNat .none]
            rw [e1]
        · have e : (innerE ps (.tuple (.str s0 :: args))).map entP = (rngD 1 (((args.length + 1 : Nat) : Int) - 1).toNat).map (fun z => match z with | .int j => .tuple [.tuple (ps ++ [.int j]), args.getD (j - 1).toNat .none] | _ => .none) := by
            have e0 : (((args.length + 1 : Nat) : Int) - 1).toNat = args.length := by omega
            rw [e0]
            simp only [innerE, hk, rngD, List.map_map]
            refine List.ext_getElem? fun i => ?_
            simp only [List.getElem?_map, List.getElem?_mapIdx]
            by_cases hi : i < args.length
            · rw [List.getElem?_eq_getElem hi, List.getElem?_eq_getElem (by rw [List.length_range]; exact hi)]
              simp only [Option.map_some, List.getElem_range, Function.comp]
              have e1 : (1 + (i : Int) - 1).toNat = i := by omega
              have e2 : ((i + 1 : Nat) : Int) = 1 + (i : Int) := by omega
              show some (entP (ps ++ [.int ((i + 1 : Nat) : Int)], args[i], _)) = some (.tuple [.tuple (ps ++ [.int (1 + (i : Int))]), args.getD (1 + (i : Int) - 1).toNat .none])
              rw [e1, e2]
              simp [entP, List.getD, List.getElem?_eq_getElem hi]
            · rw [List.getElem?_eq_none (by omega), List.getElem?_eq_none (by rw [List.length_range]; omega)]
              rfl
          rw [e] at q
          exact q
/-- the first wrong part: only whether there is one is asked -/
abbrev S_first_wrong : List B → Rs → (B → Rs → Prop) → Prop := fun bs t Q => ∃ x k, bs = [.d x, .d (wordsD k), .d .none] ∧ Gd x ∧ (wf k x = true → Q (.d .none) t) ∧ (wf k x = false → ∀ ps, Q (.d (.tuple ps)) t)
def stSz (st : List (List PyData × PyData × Bool)) : Nat := (st.map fun e => sz e.2.1).sum
theorem stSz_app (a b : List (List PyData × PyData × Bool)) : stSz (a ++ b) = stSz a + stSz b := by simp [stSz]
theorem stSz_len : ∀ l : List (List PyData × PyData × Bool), l.length ≤ stSz l
  | [] => Nat.zero_le _
  | e :: l => by
    have h1 := stSz_len l
    have h2 := sz_pos e.2.1
    have h3 : stSz (e :: l) = sz e.2.1 + stSz l := by simp [stSz]
    rw [h3, List.length_cons]
    omega
def StOk (e : List PyData × PyData × Bool) : Prop := Gd e.2.1 ∧ e.1.length + e.2.1.depth ≤ 60
theorem innerE_ok {ps : List PyData} {y : PyData} {kk : Bool} (h : StOk (ps, y, kk)) : ∀ e ∈ innerE ps y, StOk e := fun e he => by
  simp only [innerE, List.mem_mapIdx] at he
  obtain ⟨i, hi, rfl⟩ := he
  have hm := List.getElem_mem hi
  refine ⟨kids_gd h.1 hm, ?_⟩
  have h1 := kids_dep hm
  have h2 : ps.length + y.depth ≤ 60 := h.2
  show (ps ++ [_]).length + (kids y)[i].depth ≤ 60
  rw [List.length_append]
  show ps.length + 1 + _ ≤ 60
  omega
theorem innerE_snd (ps : List PyData) (y : PyData) : (innerE ps y).map (fun e => sz e.2.1) = (kids y).map sz := by
  refine List.ext_getElem? fun i => ?_
  simp [innerE, List.getElem?_mapIdx]
  cases (kids y)[i]? <;> rfl
theorem kids_sum (y : PyData) : ((kids y).map sz).sum < sz y := by
  have e : ∀ xs : List PyData, (xs.map sz).sum = szA xs := by
    intro xs
    induction xs with
    | nil => rfl
    | cons x r ih => rw [List.map_cons, List.sum_cons, ih, szA]
  rw [e]
  cases y with
  | tuple xs =>
    cases xs with
    | nil => simp [kids, szA, sz]
    | cons z args =>
      cases z with
      | str s =>
        simp only [kids]
        split
        · simp [szA, sz]
          omega
        · simp [szA, sz]
          omega
      | _ => simp [kids, szA, sz]; try omega
  | _ => simp [kids, szA, sz]; try omega
theorem innerE_sz (ps : List PyData) (y : PyData) : stSz (innerE ps y) < sz y := by
  unfold stSz
  rw [innerE_snd]
  exact kids_sum y
theorem innerE_all (ps : List PyData) (y : PyData) : (innerE ps y).all (fun e => wf e.2.2 e.2.1) = (kids y).all (wf (kidK y)) := by
  unfold innerE
  generalize kids y = l
  rw [Bool.eq_iff_iff, List.all_eq_true, List.all_eq_true]
  constructor
  · intro h a ha
    obtain ⟨i, hi, rfl⟩ := List.getElem_of_mem ha
    exact h _ (List.mem_mapIdx.mpr ⟨i, hi, rfl⟩)
  · intro h e he
    obtain ⟨i, hi, rfl⟩ := List.mem_mapIdx.mp he
    exact h _ (List.getElem_mem hi)
theorem all_rev {α : Type} (p : α → Bool) (l : List α) : l.reverse.all p = l.all p := by simp
theorem stSz_rev (l : List (List PyData × PyData × Bool)) : stSz l.reverse = stSz l := by simp [stSz]
theorem ok_first_wrong {Wo : WO} {f : Addr} {fd : FuncData} {k : Nat} (F : Fun K "first_wrong" "first_wrong" s_first_wrong f fd) (u : Bu mg) (D1 : Def P w K Wo mg base k "_fits" 3 S_fits) (D2 : Def P w K Wo mg base k "_inner_parts" 2 S_inner_parts) (D3 : Def P w K Wo mg base k "inner_words" 1 S_inner_words) :
    FnOk P w K mg base CX0 (k + 1) f fd ["thing", "words", "names"] (spD K Wo 3 S_first_wrong) :=
  okD F sc_first_wrong rfl fun cdv A outer s H E M bs t Q hr hl h => by
    obtain ⟨x, kk, rfl, gd, q1, q2⟩ := h
    have nd := sc_first_wrong.nd
    refine jss_setL 3 nd (jl_lst (ja_cons (jd_tup (ja_cons (jd_tup (ja_nil ⟨[], rfl, by decide, ?_⟩))))))
    repeat walk_at "je"
    refine ⟨[.tuple [], x, wordsD kk], rfl, (by show 3 ≤ 16777216; decide), ?_⟩
    repeat walk_at "je"
    refine ⟨[entD ([], x, kk)], rfl, (by show 1 ≤ 16777216; decide), ?_⟩
    refine jss_cons (js_while PassesOwn.never (fun m ρ t' => ∃ (st : List (List PyData × PyData × Bool)) (b4 b5 b6 b7 b8 : B), ρ = [.d x, .d (wordsD kk), .d .none, .own (st.map entD), b4, b5, b6, b7, b8] ∧ m = stSz st ∧ stSz st ≤ 50000 ∧ (∀ e ∈ st, StOk e) ∧ wf kk x = st.all (fun e => wf e.2.2 e.2.1) ∧ t' = t) (sz x)
      ⟨[([], x, kk)], .un, .un, .un, .un, .un, rfl, by simp [stSz], by simp [stSz]; exact gd.2.1, fun e he => ?_, by simp, rfl⟩ fun m ρ' t' hI => ?_)
    · rw [List.mem_singleton.mp he]
      exact ⟨gd, by have := gd.2.2; simp; omega⟩
    · obtain ⟨st, b4, b5, b6, b7, b8, rfl, rfl, hsz, hok, hwf, rfl⟩ := hI
      refine jt_own 3 rfl ⟨fun h1 => ?_, fun h1 => ?_⟩
      · have hne : st ≠ [] := fun z => by
          rw [z] at h1
          simp at h1
        obtain ⟨st0, ⟨ps, y, ky⟩, rfl⟩ : ∃ st0 e, st = st0 ++ [e] := ⟨st.dropLast, st.getLast hne, (List.dropLast_concat_getLast hne).symm⟩
        have hy : StOk (ps, y, ky) := hok _ (by simp)
        have hps : ps.length ≤ 60 := by
          have : ps.length + y.depth ≤ 60 := hy.2
          omega
        rw [List.map_append]
        have hw : wf kk x = (st0.all (fun e => wf e.2.2 e.2.1) && wf ky y) := by rw [hwf, List.all_append]; simp
        refine jss_cons (js_popTo 3 (y := entD (ps, y, ky)) rfl (pg_tup rfl (pgs_cons (pg_name (i := 4) nd rfl (Or.inl rfl)) (pgs_cons (pg_name (i := 5) nd rfl (Or.inl rfl)) (pgs_cons (pg_name (i := 6) nd rfl (Or.inl rfl)) pgs_nil)))) (dg_three ?_))
        dsimp only
        refine jss_if0 (jt_not (jt_val (jd_call D1 hr (Nat.le_refl _) rfl ?_)))
        repeat walk_at "je"
        refine ⟨y, ky, rfl, hy.1, _, rfl, _, rfl, fun h2 => ?_, fun h2 => ?_⟩
        · repeat walk_at "je"
          have hf : fits ky y = false := by simpa using h2
          have : wf kk x = false := by rw [hw, wf_eq ky y, hf, Bool.false_and, Bool.and_false]
          exact q2 this ps
        · have hf : fits ky y = true := by simpa using h2
          refine jss_one (js_for PassesOwn.never rfl (pg_tup rfl (pgs_cons (pg_name (i := 7) nd rfl (Or.inl rfl)) (pgs_cons (pg_name (i := 8) nd rfl (Or.inl rfl)) pgs_nil))) (ji_lst (JL.toD (jl_rev (JL.toD (jl_call D2 hr (Nat.le_refl _) rfl ?_))))))
          repeat walk_at "je"
          refine ⟨ps, y, rfl, by omega, hy.1, ⟨ky, hf⟩, _, rfl, _, rfl, _, rfl, ?_⟩
          have hw2 : wf kk x = (st0.all (fun e => wf e.2.2 e.2.1) && (innerE ps y).reverse.all (fun e => wf e.2.2 e.2.1)) := by
            rw [hw, wf_eq ky y, hf, Bool.true_and, all_rev, innerE_all]
          have rev : ((innerE ps y).map entP).reverse = (innerE ps y).reverse.map entP := by rw [List.map_reverse]
          rw [rev]
          refine ⟨fun i ρ2 t2 => ∃ b7 b8, ρ2 = [.d x, .d (wordsD kk), .d .none, .own ((st0 ++ ((innerE ps y).reverse.take i)).map entD), .d (.tuple ps), .d y, .d (wordsD ky), b7, b8] ∧ t2 = t', ?_, fun i z ρ2 t2 ez hI => ?_, fun ρ2 t2 hI => ?_⟩
          · exact ⟨b7, b8, by simp [List.map_append], rfl⟩
          · obtain ⟨c7, c8, rfl, rfl⟩ := hI
            rw [List.getElem?_map] at ez
            cases ee : (innerE ps y).reverse[i]? with
            | none => rw [ee] at ez; cases ez
            | some e =>
              rw [ee] at ez
              obtain rfl : entP e = z := Option.some.inj ez
              have hm : e ∈ innerE ps y := List.mem_reverse.mp (List.mem_of_getElem? ee)
              refine dg_two ?_
              rcases fits_true hf with ⟨n, rfl⟩ | ⟨s0, args, rfl⟩
              · simp [innerE, kids] at hm
              · have hs0 := (hy.1.memT (x := .str s0) List.mem_cons_self).shaped
                have hkk : e.2.2 = !joinS.contains s0 := by
                  simp only [innerE, List.mem_mapIdx] at hm
                  obtain ⟨j, hj, rfl⟩ := hm
                  rfl
                refine jss_one (js_append 3 rfl (jd_tup ?_))
                repeat walk_at "je"
                refine jd_call D3 hr (Nat.le_refl _) rfl (ja_cons (jd_ixT ?_))
                repeat walk_at "je"
                refine ⟨0, .str s0, rfl, atI_nat (j := 0) rfl, ?_⟩
                repeat walk_at "je"
                refine ⟨[.tuple e.1, e.2.1, wordsD e.2.2], by rw [hkk]; rfl, (by show 3 ≤ 16777216; decide), ?_, .d (.tuple e.1), .d e.2.1, ?_, rfl⟩
                · have h3 : ((st0 ++ ((innerE ps (.tuple (.str s0 :: args))).reverse.take i)).map entD).length ≤ stSz st0 + stSz (innerE ps (.tuple (.str s0 :: args))) := by
                    rw [List.length_map, List.length_append, List.length_take, List.length_reverse]
                    have l1 := stSz_len st0
                    have l2 := stSz_len (innerE ps (.tuple (.str s0 :: args)))
                    omega
                  rw [stSz_app] at hsz
                  have h4 := innerE_sz ps (.tuple (.str s0 :: args))
                  have h5 : stSz [(ps, .tuple (.str s0 :: args), ky)] = sz (.tuple (.str s0 :: args)) := by simp [stSz]
                  omega
                · rw [List.take_add_one, ee]
                  simp [List.map_append, entD]
          · obtain ⟨c7, c8, rfl, rfl⟩ := hI
            have hlt : stSz (st0 ++ (innerE ps y).reverse) < stSz (st0 ++ [(ps, y, ky)]) := by
              rw [stSz_app, stSz_app, stSz_rev]
              have := innerE_sz ps y
              simp [stSz] at this ⊢
              omega
            refine ⟨stSz (st0 ++ (innerE ps y).reverse), hlt, st0 ++ (innerE ps y).reverse, _, _, _, _, _, by rw [List.length_map, List.take_length], rfl, by omega, fun e he => ?_, ?_, rfl⟩
            · rcases List.mem_append.mp he with he | he
              · exact hok e (List.mem_append_left _ he)
              · exact innerE_ok hy e (List.mem_reverse.mp he)
            · rw [hw2, List.all_append]
      · have hst : st = [] := by
          cases st with
          | nil => rfl
          | cons a r => simp at h1
        subst hst
        dsimp only
        repeat walk_at "je"
        exact q1 (by rw [hwf]; rfl)
abbrev S_is_expr (k : Bool) : List B → Rs → (B → Rs → Prop) → Prop := fun bs t Q => ∃ x, bs = [.d x] ∧ Gd x ∧ Q (.d (.bool (wf k x))) t
theorem ok_is_count {Wo : WO} {f : Addr} {fd : FuncData} {k : Nat} (F : Fun K "is_count" "is_count" s_is_count f fd) (g : Gc K w mg) (D1 : Def P w K Wo mg base k "first_wrong" 3 S_first_wrong) : FnOk P w K mg base CX0 (k + 1) f fd ["thing"] (spD K Wo 1 (S_is_expr true)) :=
  okD F sc_is_count rfl fun cdv A outer s H E M bs t Q hr hl h => by
    obtain ⟨x, rfl, gd, q⟩ := h
    obtain ⟨a1, g1, d1⟩ := g.cw
    refine jss_ret (jd_isN (jd_call D1 hr (Nat.le_refl _) rfl ?_))
    repeat walk_at "je"
    refine jd_glob (v := .ref a1) g1 rfl d1 ?_
    repeat walk_at "je"
    refine ⟨x, true, rfl, gd, fun h => ⟨_, rfl, ?_⟩, fun h ps => ⟨_, rfl, ?_⟩⟩
    · rw [h] at q
      exact q
    · rw [h] at q
      exact q
theorem ok_is_condition {Wo : WO} {f : Addr} {fd : FuncData} {k : Nat} (F : Fun K "is_condition" "is_condition" s_is_condition f fd) (g : Gc K w mg) (D1 : Def P w K Wo mg base k "first_wrong" 3 S_first_wrong) : FnOk P w K mg base CX0 (k + 1) f fd ["thing"] (spD K Wo 1 (S_is_expr false)) :=
  okD F sc_is_condition rfl fun cdv A outer s H E M bs t Q hr hl h => by
    obtain ⟨x, rfl, gd, q⟩ := h
    obtain ⟨a1, g1, d1⟩ := g.rw
    refine jss_ret (jd_isN (jd_call D1 hr (Nat.le_refl _) rfl ?_))
    repeat walk_at "je"
    refine jd_glob (v := .ref a1) g1 rfl d1 ?_
    repeat walk_at "je"
    refine ⟨x, false, rfl, gd, fun h => ⟨_, rfl, ?_⟩, fun h ps => ⟨_, rfl, ?_⟩⟩
    · rw [h] at q
      exact q
    · rw [h] at q
      exact q
end
end K01
end
section
set_option maxRecDepth 100000
set_option maxHeartbeats 4000000
namespace K01
open PySem PySem.Spec PyProof.Rows L2 Dl

local macro_rules | `(tactic| walk_at "nm") => `(tactic| first | refine jd_name 0 rfl ?_ | refine jd_name 1 rfl ?_ | refine jd_name 2 rfl ?_ | refine jd_name 3 rfl ?_ | refine jd_name 4 rfl ?_ | refine jd_name 5 rfl ?_ | refine jd_name 6 rfl ?_ | refine jd_name 7 rfl ?_ | refine jd_name 8 rfl ?_ | refine jd_name 9 rfl ?_ | refine jd_name 10 rfl ?_ | refine jd_name 11 rfl ?_ | refine jd_name 12 rfl ?_ | refine jd_name 13 rfl ?_)
local macro_rules | `(tactic| walk_at "sub") => `(tactic| fail)
local macro_rules | `(tactic| walk_at "call") => `(tactic| first | refine jd_len (by assumption) ?_ | refine jd_intc (by assumption) ?_ | refine jd_tupc (by assumption) ?_)
local macro_rules | `(tactic| walk_at "cmp") => `(tactic| first | refine jd_eq (by assumption) ?_ | refine jd_ne (by assumption) ?_)
local macro_rules | `(tactic| walk_at "cmpT") => `(tactic| first | refine jt_eq (by assumption) ?_ | refine jt_ne (by assumption) ?_)
local macro_rules | `(tactic| walk_at "callT") => `(tactic| refine jt_val ?_)
local macro_rules | `(tactic| walk_at "je") => `(tactic| first
  | with_reducible refine ⟨_, rfl, ?_⟩
  | (refine g_name ?_; walk_at "nm") | refine jd_int ?_ | refine jd_str ?_
  | (refine g_args ?_; refine ja_cons ?_) | refine ja_nil ?_ | refine jd_tup ?_
  | (refine g_call ?_; walk_at "call") | (refine g_sub ?_; walk_at "sub")
  | refine jd_add ?_ | refine jd_sub ?_ | refine jd_mul ?_ | refine jd_fdiv ?_ | refine jd_mod ?_ | refine jd_pow ?_
  | refine jt_lt ?_ | refine jt_le ?_ | refine jt_gt ?_ | refine jt_ge ?_ | refine jt_isN ?_ | refine jt_notN ?_ | refine jt_not ?_ | refine jw_and ?_ | refine jw_or ?_ | refine jw_and1 ?_ | refine jw_or1 ?_
  | (refine g_cmpT ?_; walk_at "cmpT") | (refine g_callT ?_; walk_at "callT")
  | refine jd_lt ?_ | refine jd_le ?_ | refine jd_gt ?_ | refine jd_ge ?_ | refine jd_isN ?_ | refine jd_notN ?_ | (refine g_cmp ?_; walk_at "cmp")
  | refine jd_bl ?_ | refine jd_non ?_
  | refine jd_if ?_ | refine jd_and ?_ | refine jd_or ?_ | refine jd_one ?_ | refine jd_not ?_ | refine jd_neg ?_
  | refine jo_none ?_ | refine jo_some ?_
  | refine jss_nil ?_ | refine jss_ret ?_ | refine jss_if0 ?_ | refine jss_if ?_ | refine jt_bop ?_
  | with_reducible refine And.intro (by assumption) ?_ | refine And.intro (show List.length _ = _ from rfl) ?_ | refine And.intro (Or.inl (by decide)) ?_ | refine And.intro (by decide : _ ≠ _) ?_ | refine And.intro ⟨by decide, by decide⟩ ?_ | refine And.intro ⟨by decide, by decide, by decide⟩ ?_
  | (dsimp only; first | refine jss_nil ?_ | refine jss_ret ?_))
local macro_rules | `(tactic| walk_at "call") => `(tactic| first | refine jd_isi (T := "int") (Ts := "int") rfl rfl (Bu.isi (by assumption)) rfl (Bu.int (by assumption)) boot_int' (by simp) ?_ | refine jd_isi (T := "bool") (Ts := "bool") rfl rfl (Bu.isi (by assumption)) rfl (Bu.bool (by assumption)) Dl.boot_bool (by simp) ?_ | refine jd_isi (T := "str") (Ts := "str") rfl rfl (Bu.isi (by assumption)) rfl (Bu.str (by assumption)) Dl.boot_str (by simp) ?_ | refine jd_isi (T := "tuple") (Ts := "tuple") rfl rfl (Bu.isi (by assumption)) rfl (Bu.tuple (by assumption)) Dl.boot_tuple (by simp) ?_ | refine jd_isi (T := "list") (Ts := "list") rfl rfl (Bu.isi (by assumption)) rfl (Bu.list (by assumption)) Dl.boot_list (by simp) ?_)
/-! ### the law's own looks -/
def goalS (k : Bool) : Str := if k = true then "n" else "c"
def planC : List (Str × Str) := [("=", "nn"), ("<", "nn"), ("and", "cc"), ("or", "cc"), ("not", "c")]
def planN : List (Str × Str) := [("item", "s"), ("+", "nn"), ("-", "nn"), ("*", "nn")]
def planO (k : Bool) (s : Str) : Option Str := getS (if k = true then planN else planC) s
theorem planO_none {k : Bool} {s : Str} (h : planO k s = none) : (wordsS k).contains s = false := by
  cases k with
  | true =>
    have : s ∉ (["item", "+", "-", "*"] : List Str) := fun hm => by
      simp only [List.mem_cons, List.not_mem_nil, or_false] at hm
      rcases hm with rfl | rfl | rfl | rfl <;> revert h <;> decide +kernel
    simpa [wordsS] using this
  | false =>
    have : s ∉ (["=", "<", "and", "or", "not"] : List Str) := fun hm => by
      simp only [List.mem_cons, List.not_mem_nil, or_false] at hm
      rcases hm with rfl | rfl | rfl | rfl | rfl <;> revert h <;> decide +kernel
    simpa [wordsS] using this
theorem getS_mem {kvs : List (Str × Str)} {s y : Str} (h : getS kvs s = some y) : (s, y) ∈ kvs := by
  unfold getS at h
  cases e : kvs.find? (fun p => decide (p.1 = s)) with
  | none => rw [e] at h; cases h
  | some p =>
    rw [e] at h
    have h1 := List.mem_of_find?_eq_some e
    have h2 := List.find?_some e
    obtain ⟨a, b⟩ := p
    have h3 : a = s := of_decide_eq_true h2
    have h4 : b = y := Option.some.inj h
    rw [← h3, ← h4]
    exact h1
/-- what a plan says of a word -/
theorem planO_some {k : Bool} {s y : Str} (h : planO k s = some y) : (wordsS k).contains s = true ∧ ((y.length : Int) + 1 = lenOf s) ∧ (y = "s" ↔ s = "item") ∧ (s ≠ "item" → y.length ≤ 3 ∧ ∀ (j : Nat) (c : Nat), y.cps.toList[j]? = some c → (⟨#[c]⟩ : Str) = goalS (!joinS.contains s)) := by
  have hm := getS_mem h
  cases k with
  | true =>
    simp only [planN, if_true, List.mem_cons, List.not_mem_nil, or_false, Prod.mk.injEq] at hm
    rcases hm with ⟨rfl, rfl⟩ | ⟨rfl, rfl⟩ | ⟨rfl, rfl⟩ | ⟨rfl, rfl⟩
    · refine ⟨by decide +kernel, by decide +kernel, by decide +kernel, fun z => absurd rfl z⟩
    all_goals
      refine ⟨by decide +kernel, by decide +kernel, by decide +kernel, fun _ => ⟨by decide +kernel, fun j c e => ?_⟩⟩
      have e2 : ("nn" : Str).cps.toList = [110, 110] := by decide +kernel
      rw [e2] at e
      match j, e with
      | 0, e => cases e; decide +kernel
      | 1, e => cases e; decide +kernel
  | false =>
    simp only [planC, Bool.false_eq_true, if_false, List.mem_cons, List.not_mem_nil, or_false, Prod.mk.injEq] at hm
    rcases hm with ⟨rfl, rfl⟩ | ⟨rfl, rfl⟩ | ⟨rfl, rfl⟩ | ⟨rfl, rfl⟩ | ⟨rfl, rfl⟩
    · refine ⟨by decide +kernel, by decide +kernel, by decide +kernel, fun _ => ⟨by decide +kernel, fun j c e => ?_⟩⟩
      have e2 : ("nn" : Str).cps.toList = [110, 110] := by decide +kernel
      rw [e2] at e
      match j, e with
      | 0, e => cases e; decide +kernel
      | 1, e => cases e; decide +kernel
    · refine ⟨by decide +kernel, by decide +kernel, by decide +kernel, fun _ => ⟨by decide +kernel, fun j c e => ?_⟩⟩
      have e2 : ("nn" : Str).cps.toList = [110, 110] := by decide +kernel
      rw [e2] at e
      match j, e with
      | 0, e => cases e; decide +kernel
      | 1, e => cases e; decide +kernel
    · refine ⟨by decide +kernel, by decide +kernel, by decide +kernel, fun _ => ⟨by decide +kernel, fun j c e => ?_⟩⟩
      have e2 : ("cc" : Str).cps.toList = [99, 99] := by decide +kernel
      rw [e2] at e
      match j, e with
      | 0, e => cases e; decide +kernel
      | 1, e => cases e; decide +kernel
    · refine ⟨by decide +kernel, by decide +kernel, by decide +kernel, fun _ => ⟨by decide +kernel, fun j c e => ?_⟩⟩
      have e2 : ("cc" : Str).cps.toList = [99, 99] := by decide +kernel
      rw [e2] at e
      match j, e with
      | 0, e => cases e; decide +kernel
      | 1, e => cases e; decide +kernel
    · refine ⟨by decide +kernel, by decide +kernel, by decide +kernel, fun _ => ⟨by decide +kernel, fun j c e => ?_⟩⟩
      have e2 : ("c" : Str).cps.toList = [99] := by decide +kernel
      rw [e2] at e
      match j, e with
      | 0, e => cases e; decide +kernel
theorem sh_goal (k : Bool) : SeqAt.shaped (.str (goalS k)) = true := by cases k <;> decide +kernel
section
variable {P : Program} {w : World} {K : PySem.W.Frag} {mg : Str → Option Value} {base : Heap}
theorem ok_l_integer {Wo : WO} {f : Addr} {fd : FuncData} {k : Nat} (F : Fun K "_law_is_integer" "_law_is_integer" s__law_is_integer f fd) (u : Bu mg) : FnOk P w K mg base CX0 (k + 1) f fd ["_law_thing"] (spD K Wo 1 S_is_integer) :=
  okD F sc__law_is_integer rfl fun cdv A outer s H E M bs t Q hr hl h => by
    obtain ⟨x, rfl, q⟩ := h
    repeat walk_at "je"
    refine ⟨fun h1 => ?_, fun h1 => ?_⟩
    · repeat walk_at "je"
      cases x <;> first | (exact q) | (simp [isiD, tyD] at h1)
    · cases x <;> first | (exact q) | (simp [isiD, tyD] at h1)
abbrev S_l_name : List B → Rs → (B → Rs → Prop) → Prop := fun bs t Q => ∃ x, bs = [.d x] ∧ Gd x ∧ Q (.d (.bool (isName x))) t
theorem ok_l_name {Wo : WO} {f : Addr} {fd : FuncData} {k : Nat} (F : Fun K "_law_is_name" "_law_is_name" s__law_is_name f fd) (u : Bu mg) : FnOk P w K mg base CX0 (k + 1) f fd ["_law_thing"] (spD K Wo 1 S_l_name) :=
  okD F sc__law_is_name rfl fun cdv A outer s H E M bs t Q hr hl h => by
    obtain ⟨x, rfl, sh, q⟩ := h
    have nd := sc__law_is_name.nd
    repeat walk_at "je"
    rw [isi_str]
    refine ⟨fun h1 => ?_, fun h1 => ?_⟩
    · cases x with
      | str y =>
        refine jd_and (jd_chain op_lt op_lt ?_)
        repeat walk_at "je"
        refine ⟨sh.short y rfl, ?_⟩
        repeat walk_at "je"
        refine ⟨fun h2 => ?_, fun h2 => ?_⟩
        · refine ⟨_, rfl, fun z => (by cases z), fun _ => ?_⟩
          have h2' := of_decide_eq_false h2
          have e : isName (.str y) = false := by
            simp only [isName, nameS]
            rw [decide_eq_false (by omega), Bool.false_and]
          rw [e] at q
          exact q
        · repeat walk_at "je"
          have h2' := of_decide_eq_true h2
          refine ⟨fun h3 => ?_, fun h3 => ?_⟩
          · have h3' := of_decide_eq_true h3
            have hlen : y.cps.toList.length = y.length := by simp [Str.length]
            refine jd_one (jd_eq hr (JL.toD (jl_filt (own := [("_law_sign", 1)]) (g := gName 1) (fun x => !sgnOk x) (fun x => x) rfl nd (blkOk_by (N := ["_law_thing", "_law_sign"]) (sc := defScope s__law_is_name) (by decide +kernel)) wipes1 (fun _ _ _ _ _ => pg_name (i := 1) nd rfl (Or.inl rfl)) (ji_str ?_))))
            repeat walk_at "je"
            refine ⟨⟨by simp only [sgnD, List.length_map]; omega, fun x hx => ?_⟩, ?_⟩
            · obtain ⟨c, _, rfl⟩ := List.mem_map.mp hx
              refine dg_name fun s0 H0 C cl fp => jt_not (jt_chainS (g := fun i j => !decide (j.cps.toList < i.cps.toList)) (g' := fun i j => !decide (j.cps.toList < i.cps.toList)) op_le_str op_le_str (fun i j H Q q => ⟨i, j, rfl, rfl, q⟩) (fun i j H Q q => ⟨i, j, rfl, rfl, q⟩) ?_)
              have ea : ("a" : Str).cps.toList = [97] := by decide +kernel
              have ez : ("z" : Str).cps.toList = [122] := by decide +kernel
              have es : (⟨#[c]⟩ : Str).cps.toList = [c] := rfl
              have l1 : ∀ a b : Nat, decide ([a] < [b]) = decide (a < b) := fun a b => by
                by_cases hab : a < b
                · rw [decide_eq_true hab, decide_eq_true (List.cons_lt_cons_iff.mpr (Or.inl hab))]
                · rw [decide_eq_false hab, decide_eq_false (fun z => by
                    rcases List.cons_lt_cons_iff.mp z with z | ⟨_, z⟩
                    · exact hab z
                    · exact absurd z (List.not_lt_nil _))]
              have elt : ∀ (s1 : Shared) (H1 : Hp) (C1 : Addr) (cl1 : List (Str × Addr)) (fp1 : List Addr) (t0 : Rs), True := fun _ _ _ _ _ _ => trivial
              refine jd_str ⟨_, rfl, jd_name 1 rfl ⟨_, rfl, ?_⟩⟩
              rw [ea, l1]
              refine ⟨fun h4 => ?_, fun h4 => ?_⟩
              · have e : (!sgnOk (.str ⟨#[c]⟩)) = true := by
                  have : c < 97 := by simpa using h4
                  simp [sgnOk]
                  omega
                exact ⟨e.symm, rfl, fun _ s1 H1 C1 cl1 fp1 => jd_name 1 rfl ⟨rfl, rfl⟩⟩
              · refine jd_str ⟨_, rfl, ?_⟩
                rw [ez, l1]
                refine ⟨?_, rfl, fun _ s1 H1 C1 cl1 fp1 => jd_name 1 rfl ⟨rfl, rfl⟩⟩
                have h4' : 97 ≤ c := by simpa using h4
                by_cases h5 : c ≤ 122
                · simp [sgnOk, h4', h5, show ¬ (122 < c) by omega]
                · simp [sgnOk, h4', h5, show 122 < c by omega]
            · refine JL.toD (jl_lst (ja_nil ⟨[], rfl, by decide, ?_, by decide +kernel, ?_⟩))
              · rw [List.map_id']
                refine shaped_of ?_ ?_
                · refine Fin.lay _ (FinA_iff.mpr fun x hx => ?_)
                  obtain ⟨c, hc, rfl⟩ := List.mem_map.mp ((List.mem_filter.mp hx).1)
                  intro c' hc'
                  have e5 : c' = c := by simpa using hc'
                  rw [e5]
                  exact sh.1 c hc
                · simp only [PyData.depth]
                  have : PyData.depthAll ((sgnD y).filter fun x => !sgnOk x) ≤ 0 := depA_le fun x hx => by
                    obtain ⟨c, _, rfl⟩ := List.mem_map.mp ((List.mem_filter.mp hx).1)
                    simp only [PyData.depth]
                    omega
                  omega
              · rw [List.map_id']
                have e : PyData.eqv (.list ((sgnD y).filter fun x => !sgnOk x)) (.list []) = isName (.str y) := by
                  have e3 : ((y.length : Int) < 9) := of_decide_eq_true h3
                  simp only [isName, nameS]
                  rw [decide_eq_true (show 1 ≤ y.length ∧ y.length ≤ 8 by omega), Bool.true_and]
                  cases hf : (sgnD y).filter fun x => !sgnOk x with
                  | nil =>
                    have h5 := List.filter_eq_nil_iff.mp hf
                    have : (y.cps.toList.all fun c => decide (97 ≤ c ∧ c ≤ 122)) = true := List.all_eq_true.mpr fun c hc => by
                      have h6 := h5 _ (List.mem_map.mpr ⟨c, hc, rfl⟩)
                      simpa [sgnOk] using h6
                    rw [this]
                    decide +kernel
                  | cons z zs =>
                    have h5 : z ∈ (sgnD y).filter fun x => !sgnOk x := by rw [hf]; exact List.mem_cons_self
                    obtain ⟨h6, h7⟩ := List.mem_filter.mp h5
                    obtain ⟨c, hc, rfl⟩ := List.mem_map.mp h6
                    have : (y.cps.toList.all fun c => decide (97 ≤ c ∧ c ≤ 122)) = false := List.all_eq_false.mpr ⟨c, hc, fun h9 => by
                      have h8 : 97 ≤ c ∧ c ≤ 122 := of_decide_eq_true h9
                      simp [sgnOk, h8.1, h8.2] at h7⟩
                    rw [this]
                    simp [PyData.eqv, PyData.eqvAll]
                rw [e]
                exact q
          · have h3' := of_decide_eq_false h3
            have e : isName (.str y) = false := by
              simp only [isName, nameS]
              rw [decide_eq_false (by omega), Bool.false_and]
            rw [e] at q
            exact q
      | _ => simp [isStr] at h1
    · have e : isName x = false := by cases x <;> first | rfl | (simp [isStr] at h1)
      rw [e] at q
      exact q
end
end K01
end
section
set_option maxRecDepth 100000
set_option maxHeartbeats 4000000
namespace K01
open PySem PySem.Spec PyProof.Rows L2 Dl

local macro_rules | `(tactic| walk_at "nm") => `(tactic| first | refine jd_name 0 rfl ?_ | refine jd_name 1 rfl ?_ | refine jd_name 2 rfl ?_ | refine jd_name 3 rfl ?_ | refine jd_name 4 rfl ?_ | refine jd_name 5 rfl ?_ | refine jd_name 6 rfl ?_ | refine jd_name 7 rfl ?_ | refine jd_name 8 rfl ?_ | refine jd_name 9 rfl ?_ | refine jd_name 10 rfl ?_ | refine jd_name 11 rfl ?_ | refine jd_name 12 rfl ?_ | refine jd_name 13 rfl ?_)
local macro_rules | `(tactic| walk_at "sub") => `(tactic| fail)
local macro_rules | `(tactic| walk_at "call") => `(tactic| first | refine jd_len (by assumption) ?_ | refine jd_intc (by assumption) ?_ | refine jd_tupc (by assumption) ?_)
local macro_rules | `(tactic| walk_at "cmp") => `(tactic| first | refine jd_eq (by assumption) ?_ | refine jd_ne (by assumption) ?_)
local macro_rules | `(tactic| walk_at "cmpT") => `(tactic| first | refine jt_eq (by assumption) ?_ | refine jt_ne (by assumption) ?_)
local macro_rules | `(tactic| walk_at "callT") => `(tactic| refine jt_val ?_)
local macro_rules | `(tactic| walk_at "je") => `(tactic| first
  | with_reducible refine ⟨_, rfl, ?_⟩
  | (refine g_name ?_; walk_at "nm") | refine jd_int ?_ | refine jd_str ?_
  | (refine g_args ?_; refine ja_cons ?_) | refine ja_nil ?_ | refine jd_tup ?_
  | (refine g_call ?_; walk_at "call") | (refine g_sub ?_; walk_at "sub")
  | refine jd_add ?_ | refine jd_sub ?_ | refine jd_mul ?_ | refine jd_fdiv ?_ | refine jd_mod ?_ | refine jd_pow ?_
  | refine jt_lt ?_ | refine jt_le ?_ | refine jt_gt ?_ | refine jt_ge ?_ | refine jt_isN ?_ | refine jt_notN ?_ | refine jt_not ?_ | refine jw_and ?_ | refine jw_or ?_ | refine jw_and1 ?_ | refine jw_or1 ?_
  | (refine g_cmpT ?_; walk_at "cmpT") | (refine g_callT ?_; walk_at "callT")
  | refine jd_lt ?_ | refine jd_le ?_ | refine jd_gt ?_ | refine jd_ge ?_ | refine jd_isN ?_ | refine jd_notN ?_ | (refine g_cmp ?_; walk_at "cmp")
  | refine jd_bl ?_ | refine jd_non ?_
  | refine jd_if ?_ | refine jd_and ?_ | refine jd_or ?_ | refine jd_one ?_ | refine jd_not ?_ | refine jd_neg ?_
  | refine jo_none ?_ | refine jo_some ?_
  | refine jss_nil ?_ | refine jss_ret ?_ | refine jss_if0 ?_ | refine jss_if ?_ | refine jt_bop ?_
  | with_reducible refine And.intro (by assumption) ?_ | refine And.intro (show List.length _ = _ from rfl) ?_ | refine And.intro (Or.inl (by decide)) ?_ | refine And.intro (by decide : _ ≠ _) ?_ | refine And.intro ⟨by decide, by decide⟩ ?_ | refine And.intro ⟨by decide, by decide, by decide⟩ ?_
  | (dsimp only; first | refine jss_nil ?_ | refine jss_ret ?_))
local macro_rules | `(tactic| walk_at "call") => `(tactic| first | refine jd_isi (T := "int") (Ts := "int") rfl rfl (Bu.isi (by assumption)) rfl (Bu.int (by assumption)) boot_int' (by simp) ?_ | refine jd_isi (T := "bool") (Ts := "bool") rfl rfl (Bu.isi (by assumption)) rfl (Bu.bool (by assumption)) Dl.boot_bool (by simp) ?_ | refine jd_isi (T := "str") (Ts := "str") rfl rfl (Bu.isi (by assumption)) rfl (Bu.str (by assumption)) Dl.boot_str (by simp) ?_ | refine jd_isi (T := "tuple") (Ts := "tuple") rfl rfl (Bu.isi (by assumption)) rfl (Bu.tuple (by assumption)) Dl.boot_tuple (by simp) ?_ | refine jd_isi (T := "list") (Ts := "list") rfl rfl (Bu.isi (by assumption)) rfl (Bu.list (by assumption)) Dl.boot_list (by simp) ?_)
section
variable {P : Program} {w : World} {K : PySem.W.Frag} {mg : Str → Option Value} {base : Heap}
abbrev S_plan : List B → Rs → (B → Rs → Prop) → Prop := fun bs t Q => ∃ k s, bs = [.d (.str (goalS k)), .d (.str s)] ∧ Q (.d (optD (planO k s))) t
theorem ok_l_plan {Wo : WO} {f : Addr} {fd : FuncData} {k : Nat} (F : Fun K "_law_plan" "_law_plan" s__law_plan f fd) : FnOk P w K mg base CX0 (k + 1) f fd ["_law_goal", "_law_word"] (spD K Wo 2 S_plan) :=
  okD F sc__law_plan rfl fun cdv A outer s H E M bs t Q hr hl h => by
    obtain ⟨kk, y, rfl, q⟩ := h
    refine jss_if0 (jt_eq hr ?_)
    repeat walk_at "je"
    refine ⟨sh_goal kk, by decide +kernel, ?_⟩
    rw [eqvStr]
    refine ⟨fun h1 => ?_, fun h1 => ?_⟩
    · cases kk with
      | true => exact absurd h1 (by decide +kernel)
      | false =>
        refine jss_ret (jd_dget planC hr (pe_disp (pps_cons (pe_str) (pe_str) (pps_cons (pe_str) (pe_str) (pps_cons (pe_str) (pe_str) (pps_cons (pe_str) (pe_str) (pps_cons (pe_str) (pe_str) pps_nil))))) rfl rfl (by simp) (by decide)) (by decide) (by decide +kernel) ?_ ⟨rfl, rfl, rfl, rfl⟩)
        repeat walk_at "je"
        exact q
    · cases kk with
      | false => exact absurd h1 (by decide +kernel)
      | true =>
        refine jss_ret (jd_dget planN hr (pe_disp (pps_cons (pe_str) (pe_str) (pps_cons (pe_str) (pe_str) (pps_cons (pe_str) (pe_str) (pps_cons (pe_str) (pe_str) pps_nil)))) rfl rfl (by simp) (by decide)) (by decide) (by decide +kernel) ?_ ⟨rfl, rfl, rfl, rfl⟩)
        repeat walk_at "je"
        exact q
theorem planO_fin {k : Bool} {s y : Str} (h : planO k s = some y) : ∀ c ∈ y.cps.toList, c < 128 := by
  have hm := getS_mem h
  cases k with
  | true =>
    simp only [planN, if_true, List.mem_cons, List.not_mem_nil, or_false, Prod.mk.injEq] at hm
    rcases hm with ⟨_, rfl⟩ | ⟨_, rfl⟩ | ⟨_, rfl⟩ | ⟨_, rfl⟩ <;> decide +kernel
  | false =>
    simp only [planC, Bool.false_eq_true, if_false, List.mem_cons, List.not_mem_nil, or_false, Prod.mk.injEq] at hm
    rcases hm with ⟨_, rfl⟩ | ⟨_, rfl⟩ | ⟨_, rfl⟩ | ⟨_, rfl⟩ | ⟨_, rfl⟩ <;> decide +kernel
theorem sh_str3 (y : Str) (h : ∀ c ∈ y.cps.toList, c < 128) : SeqAt.shaped (.str y) = true := shaped_of (Fin.lay (.str y) h) (by simp only [PyData.depth]; omega)
abbrev S_part_ok : List B → Rs → (B → Rs → Prop) → Prop := fun bs t Q => ∃ k x, bs = [.d .none, .d (.str (goalS k)), .d x] ∧ Gd x ∧ Q (.d (.bool (fits k x))) t
theorem eqvNilT (xs : List PyData) : PyData.eqv (.tuple xs) (.tuple []) = xs.isEmpty := by cases xs <;> simp [PyData.eqv, PyData.eqvAll]
theorem ok_l_part_ok {Wo : WO} {f : Addr} {fd : FuncData} {k : Nat} (F : Fun K "_law_part_ok" "_law_part_ok" s__law_part_ok f fd) (u : Bu mg) (D1 : Def P w K Wo mg base k "_law_is_integer" 1 S_is_integer) (D2 : Def P w K Wo mg base k "_law_is_name" 1 S_l_name) (D3 : Def P w K Wo mg base k "_law_plan" 2 S_plan) :
    FnOk P w K mg base CX0 (k + 1) f fd ["_law_slots", "_law_goal", "_law_item"] (spD K Wo 3 S_part_ok) :=
  okD F sc__law_part_ok rfl fun cdv A outer s H E M bs t Q hr hl h => by
    obtain ⟨kk, x, rfl, gd, q⟩ := h
    have nd := sc__law_part_ok.nd
    refine jss_if0 (jt_not (jt_val ?_))
    repeat walk_at "je"
    rw [isi_tup]
    refine ⟨fun h1 => ?_, fun h1 => ?_⟩
    · refine jss_ret (jd_and (jd_eq hr ?_))
      repeat walk_at "je"
      refine ⟨sh_goal kk, by decide +kernel, ?_⟩
      rw [eqvStr]
      refine ⟨_, rfl, fun h2 => ?_, fun h2 => ?_⟩
      · have hk : kk = true := by
          cases kk with
          | true => rfl
          | false => exact absurd h2 (by decide +kernel)
        refine jd_one (jd_call D1 hr (Nat.le_refl _) rfl ?_)
        repeat walk_at "je"
        have e : fits kk x = isInt x := by
          rw [hk]
          cases x <;> first | rfl | (simp [isTup] at h1)
        rw [e] at q
        exact q
      · have hk : kk = false := by
          cases kk with
          | false => rfl
          | true => exact absurd h2 (by decide +kernel)
        have e : fits kk x = false := by
          rw [hk]
          cases x <;> first | rfl | (simp [isTup] at h1)
        rw [e] at q
        exact q
    · cases x with
      | tuple xs =>
        have hlen := gd.lenT
        refine jss_if0 (jt_bop (jw_or (jt_eq hr ?_)))
        repeat walk_at "je"
        refine ⟨[], rfl, by decide, gd.shaped, by decide +kernel, ?_⟩
        rw [eqvNilT]
        refine ⟨fun h2 => ?_, fun h2 => ?_⟩
        · cases xs with
          | nil => cases h2
          | cons x0 args =>
            refine jw_or1 (jt_not (jt_val ?_))
            repeat walk_at "je"
            refine jd_ixT ?_
            repeat walk_at "je"
            refine ⟨0, x0, rfl, atI_nat (j := 0) rfl, ?_⟩
            rw [isi_str]
            refine ⟨_, rfl, fun h3 => ?_, fun h3 => ?_⟩
            · repeat walk_at "je"
              cases x0 with
              | str _ => simp [isStr] at h3
              | _ => exact q
            · cases x0 with
              | str s0 =>
                have hs0 := (gd.memT (x := .str s0) List.mem_cons_self).shaped
                repeat walk_at "je"
                refine jss_set 3 nd (jd_call D3 hr (Nat.le_refl _) rfl ?_)
                repeat walk_at "je"
                refine jd_ixT ?_
                repeat walk_at "je"
                refine ⟨0, .str s0, rfl, atI_nat (j := 0) rfl, ?_⟩
                repeat walk_at "je"
                refine ⟨kk, s0, rfl, _, rfl, ?_⟩
                cases hp : planO kk s0 with
                | none =>
                  dsimp only [optD]
                  repeat walk_at "je"
                  refine ⟨fun z => (by cases z), fun _ => ⟨fun _ => ?_, fun z => (by cases z)⟩⟩
                  repeat walk_at "je"
                  have e : fits kk (.tuple (.str s0 :: args)) = false := by simp only [fits, planO_none hp, Bool.false_and]
                  rw [e] at q
                  exact q
                | some y =>
                  obtain ⟨hin, hly, hit, hoth⟩ := planO_some hp
                  dsimp only [optD]
                  repeat walk_at "je"
                  refine ⟨fun _ => ?_, fun z => (by cases z)⟩
                  refine jw_or1 (jt_ne hr ?_)
                  repeat walk_at "je"
                  refine ⟨by omega, ?_⟩
                  repeat walk_at "je"
                  have hl3 : lenOf s0 ≤ 3 := by unfold lenOf; split <;> decide
                  refine ⟨by omega, ?_⟩
                  repeat walk_at "je"
                  refine ⟨shInt _, shInt _, ?_⟩
                  rw [eqvInt, List.length_cons, hly]
                  refine ⟨fun h5 => ?_, fun h5 => ?_⟩
                  · repeat walk_at "je"
                    have h5' : decide (((args.length + 1 : Nat) : Int) = lenOf s0) = false := by simpa using h5
                    have e : fits kk (.tuple (.str s0 :: args)) = false := by simp only [fits, h5', Bool.and_false, Bool.false_and]
                    rw [e] at q
                    exact q
                  · have h5' : decide (((args.length + 1 : Nat) : Int) = lenOf s0) = true := by simpa using h5
                    refine jss_if0 (jt_ne hr ?_)
                    repeat walk_at "je"
                    refine ⟨sh_str3 y (planO_fin hp), by decide +kernel, ?_⟩
                    rw [eqvStr]
                    refine ⟨fun h6 => ?_, fun h6 => ?_⟩
                    · repeat walk_at "je"
                      have h6' : ¬ y = "s" := by simpa using h6
                      have e : fits kk (.tuple (.str s0 :: args)) = true := by
                        have : decide (s0 ≠ "item") = true := decide_eq_true fun z => h6' (hit.mpr z)
                        simp only [fits, hin, h5', this, Bool.true_or, Bool.and_true]
                      rw [e] at q
                      exact q
                    · have hs : s0 = "item" := hit.mp (by simpa using h6)
                      cases args with
                      | nil =>
                        exfalso
                        rw [hs] at h5'
                        revert h5'
                        decide +kernel
                      | cons a r =>
                        refine jss_ret (jd_and (jd_call D2 hr (Nat.le_refl _) rfl (ja_cons (jd_ixT ?_))))
                        repeat walk_at "je"
                        refine ⟨1, a, rfl, atI_nat (j := 1) rfl, ?_⟩
                        repeat walk_at "je"
                        refine ⟨gd.memT (x := a) (by simp), _, rfl, _, rfl, fun h7 => ?_, fun h7 => ?_⟩
                        · refine jd_one (jd_or ?_)
                          repeat walk_at "je"
                          refine ⟨fun z => (by cases z), fun _ => ?_⟩
                          have e : fits kk (.tuple (.str s0 :: a :: r)) = true := by simp only [fits, hin, h5', h7, Bool.and_true, Bool.or_true]
                          rw [e] at q
                          exact q
                        · have e : fits kk (.tuple (.str s0 :: a :: r)) = false := by
                            simp only [fits, h7, Bool.or_false]
                            have e0 : decide (s0 ≠ "item") = false := decide_eq_false (fun z => z hs)
                            rw [e0, Bool.and_false]
                          rw [e] at q
                          exact q
              | _ => simp [isStr] at h3
        · refine ⟨fun _ => ?_, fun z => (by cases z)⟩
          repeat walk_at "je"
          cases xs with
          | nil => exact q
          | cons => cases h2
      | _ => simp [isTup] at h1
end
end K01
end
section
set_option maxRecDepth 100000
set_option maxHeartbeats 4000000
namespace K01
open PySem PySem.Spec PyProof.Rows L2 Dl

local macro_rules | `(tactic| walk_at "nm") => `(tactic| first | refine jd_name 0 rfl ?_ | refine jd_name 1 rfl ?_ | refine jd_name 2 rfl ?_ | refine jd_name 3 rfl ?_ | refine jd_name 4 rfl ?_ | refine jd_name 5 rfl ?_ | refine jd_name 6 rfl ?_ | refine jd_name 7 rfl ?_ | refine jd_name 8 rfl ?_ | refine jd_name 9 rfl ?_ | refine jd_name 10 rfl ?_ | refine jd_name 11 rfl ?_ | refine jd_name 12 rfl ?_ | refine jd_name 13 rfl ?_)
local macro_rules | `(tactic| walk_at "sub") => `(tactic| fail)
local macro_rules | `(tactic| walk_at "call") => `(tactic| first | refine jd_len (by assumption) ?_ | refine jd_intc (by assumption) ?_ | refine jd_tupc (by assumption) ?_)
local macro_rules | `(tactic| walk_at "cmp") => `(tactic| first | refine jd_eq (by assumption) ?_ | refine jd_ne (by assumption) ?_)
local macro_rules | `(tactic| walk_at "cmpT") => `(tactic| first | refine jt_eq (by assumption) ?_ | refine jt_ne (by assumption) ?_)
local macro_rules | `(tactic| walk_at "callT") => `(tactic| refine jt_val ?_)
local macro_rules | `(tactic| walk_at "je") => `(tactic| first
  | with_reducible refine ⟨_, rfl, ?_⟩
  | (refine g_name ?_; walk_at "nm") | refine jd_int ?_ | refine jd_str ?_
  | (refine g_args ?_; refine ja_cons ?_) | refine ja_nil ?_ | refine jd_tup ?_
  | (refine g_call ?_; walk_at "call") | (refine g_sub ?_; walk_at "sub")
  | refine jd_add ?_ | refine jd_sub ?_ | refine jd_mul ?_ | refine jd_fdiv ?_ | refine jd_mod ?_ | refine jd_pow ?_
  | refine jt_lt ?_ | refine jt_le ?_ | refine jt_gt ?_ | refine jt_ge ?_ | refine jt_isN ?_ | refine jt_notN ?_ | refine jt_not ?_ | refine jw_and ?_ | refine jw_or ?_ | refine jw_and1 ?_ | refine jw_or1 ?_
  | (refine g_cmpT ?_; walk_at "cmpT") | (refine g_callT ?_; walk_at "callT")
  | refine jd_lt ?_ | refine jd_le ?_ | refine jd_gt ?_ | refine jd_ge ?_ | refine jd_isN ?_ | refine jd_notN ?_ | (refine g_cmp ?_; walk_at "cmp")
  | refine jd_bl ?_ | refine jd_non ?_
  | refine jd_if ?_ | refine jd_and ?_ | refine jd_or ?_ | refine jd_one ?_ | refine jd_not ?_ | refine jd_neg ?_
  | refine jo_none ?_ | refine jo_some ?_
  | refine jss_nil ?_ | refine jss_ret ?_ | refine jss_if0 ?_ | refine jss_if ?_ | refine jt_bop ?_
  | with_reducible refine And.intro (by assumption) ?_ | refine And.intro (show List.length _ = _ from rfl) ?_ | refine And.intro (Or.inl (by decide)) ?_ | refine And.intro (by decide : _ ≠ _) ?_ | refine And.intro ⟨by decide, by decide⟩ ?_ | refine And.intro ⟨by decide, by decide, by decide⟩ ?_
  | (dsimp only; first | refine jss_nil ?_ | refine jss_ret ?_))
local macro_rules | `(tactic| walk_at "call") => `(tactic| first | refine jd_isi (T := "int") (Ts := "int") rfl rfl (Bu.isi (by assumption)) rfl (Bu.int (by assumption)) boot_int' (by simp) ?_ | refine jd_isi (T := "bool") (Ts := "bool") rfl rfl (Bu.isi (by assumption)) rfl (Bu.bool (by assumption)) Dl.boot_bool (by simp) ?_ | refine jd_isi (T := "str") (Ts := "str") rfl rfl (Bu.isi (by assumption)) rfl (Bu.str (by assumption)) Dl.boot_str (by simp) ?_ | refine jd_isi (T := "tuple") (Ts := "tuple") rfl rfl (Bu.isi (by assumption)) rfl (Bu.tuple (by assumption)) Dl.boot_tuple (by simp) ?_ | refine jd_isi (T := "list") (Ts := "list") rfl rfl (Bu.isi (by assumption)) rfl (Bu.list (by assumption)) Dl.boot_list (by simp) ?_)
theorem planO_has {k : Bool} {s : Str} (h : (wordsS k).contains s = true) : ∃ y, planO k s = some y := by
  cases e : planO k s with
  | some y => exact ⟨y, rfl⟩
  | none =>
    rw [planO_none e] at h
    cases h
section
variable {P : Program} {w : World} {K : PySem.W.Frag} {mg : Str → Option Value} {base : Heap}
abbrev S_l_wrong (n : Nat) : List B → Rs → (B → Rs → Prop) → Prop := fun bs t Q => ∃ k x ps, bs = [.d .none, .d (.str (goalS k)), .d x, .d (.tuple ps)] ∧ Gd x ∧ x.depth ≤ n ∧ ps.length + n ≤ 100 ∧ (wf k x = true → Q (.d .none) t) ∧ (wf k x = false → ∀ ps', Q (.d (.tuple ps')) t)
theorem ok_l_wrong {Wo : WO} {f : Addr} {fd : FuncData} {k n : Nat} (F : Fun K "_law_wrong" "_law_wrong" s__law_wrong f fd) (u : Bu mg) (D1 : Def P w K Wo mg base k "_law_part_ok" 3 S_part_ok) (D3 : Def P w K Wo mg base k "_law_plan" 2 S_plan) (Dr : ∀ n', n = n' + 1 → Def P w K Wo mg base k "_law_wrong" 4 (S_l_wrong n')) :
    FnOk P w K mg base CX0 (k + 1) f fd ["_law_slots", "_law_goal", "_law_item", "_law_path_now"] (spD K Wo 4 (S_l_wrong n)) :=
  okD F sc__law_wrong rfl fun cdv A outer s H E M bs t Q hr hl h => by
    obtain ⟨kk, x, ps, rfl, gd, hd, hps, q1, q2⟩ := h
    have nd := sc__law_wrong.nd
    refine jss_if0 (jt_not (jt_val (jd_call D1 hr (Nat.le_refl _) rfl ?_)))
    repeat walk_at "je"
    refine ⟨kk, x, rfl, gd, _, rfl, _, rfl, fun h1 => ?_, fun h1 => ?_⟩
    · repeat walk_at "je"
      have hf : fits kk x = false := by simpa using h1
      exact q2 (by rw [wf_eq, hf, Bool.false_and]) ps
    · have hf : fits kk x = true := by simpa using h1
      refine jss_if0 (jt_bop (jw_or (jt_not (jt_val ?_))))
      repeat walk_at "je"
      rw [isi_tup]
      have stop : kids x = [] → Q (.d .none) t := fun e => q1 (by rw [wf_eq, hf, e]; rfl)
      rcases fits_true hf with ⟨i, rfl⟩ | ⟨s0, args, rfl⟩
      · refine ⟨fun z => (by cases z), fun _ => ⟨fun _ => ?_, fun z => (by cases z)⟩⟩
        repeat walk_at "je"
        exact stop rfl
      · refine ⟨fun _ => ?_, fun z => (by cases z)⟩
        have hs0 := (gd.memT (x := .str s0) List.mem_cons_self).shaped
        refine jw_or1 (jt_eq hr (jd_ixT ?_))
        repeat walk_at "je"
        refine ⟨0, .str s0, rfl, atI_nat (j := 0) rfl, ?_⟩
        repeat walk_at "je"
        refine ⟨by decide +kernel, ?_⟩
        rw [eqvStr]
        refine ⟨fun h2 => ?_, fun h2 => ?_⟩
        · repeat walk_at "je"
          have h2' : s0 = "item" := of_decide_eq_true h2
          exact stop (by simp only [kids, h2', if_true])
        · have h2' : ¬ s0 = "item" := of_decide_eq_false h2
          have hk : kids (.tuple (.str s0 :: args)) = args := by simp only [kids, if_neg h2']
          have hf2 := hf
          simp only [fits, Bool.and_eq_true] at hf2
          obtain ⟨⟨hin, hlen⟩, _⟩ := hf2
          have hlen := of_decide_eq_true hlen
          obtain ⟨y, hp⟩ := planO_has hin
          obtain ⟨_, hly, hit, hoth⟩ := planO_some hp
          obtain ⟨hy3, hsig⟩ := hoth h2'
          have hyl : y.length = args.length := by omega
          refine jss_set 4 nd (jd_call D3 hr (Nat.le_refl _) rfl ?_)
          repeat walk_at "je"
          refine jd_ixT ?_
          repeat walk_at "je"
          refine ⟨0, .str s0, rfl, atI_nat (j := 0) rfl, ?_⟩
          repeat walk_at "je"
          refine ⟨kk, s0, rfl, _, rfl, ?_⟩
          rw [hp]
          dsimp only [optD]
          refine jss_cons (js_for PassesOwn.never rfl (pg_name (i := 5) nd rfl (Or.inl rfl)) (ji_rng1 rfl u.range ?_))
          repeat walk_at "je"
          refine ⟨by omega, ?_⟩
          repeat walk_at "je"
          refine ⟨by omega, by omega, fun i ρ2 t2 => ∃ b5 b6, ρ2 = [.d .none, .d (.str (goalS kk)), .d (.tuple (.str s0 :: args)), .d (.tuple ps), .d (.str y), b5, b6] ∧ t2 = t ∧ (args.take i).all (wf (kidK (.tuple (.str s0 :: args)))) = true, ⟨_, _, rfl, rfl, rfl⟩, fun i z ρ2 t2 ez hI => ?_, fun ρ2 t2 hI => ?_⟩
          · obtain ⟨c5, c6, rfl, rfl, hall⟩ := hI
            obtain ⟨hi, rfl⟩ := rngD_of ez
            have hi : i < args.length := by omega
            have ea : args[i]? = some args[i] := List.getElem?_eq_getElem hi
            have hya : ∃ c, y.cps.toList[i]? = some c := ⟨_, List.getElem?_eq_getElem (by simp [Str.length] at hyl ⊢; omega)⟩
            obtain ⟨c, hc⟩ := hya
            have hm : args[i] ∈ kids (.tuple (.str s0 :: args)) := by rw [hk]; exact List.getElem_mem hi
            have hdk := kids_dep hm
            obtain ⟨n', rfl⟩ : ∃ n', n = n' + 1 := ⟨n - 1, by omega⟩
            refine dg_name ?_
            refine jss_set 6 nd (jd_call (Dr n' rfl) hr (Nat.le_refl _) rfl ?_)
            repeat walk_at "je"
            refine jd_ixS ?_
            repeat walk_at "je"
            refine ⟨_, c, rfl, by omega, (by
              have e : (0 + (i : Int)) = ((i : Nat) : Int) := by omega
              rw [e]
              exact atI_nat hc), ?_⟩
            refine ja_cons (jd_ixT ?_)
            repeat walk_at "je"
            refine ⟨_, args[i], rfl, (by
              have e : (0 + (i : Int)) + 1 = ((i + 1 : Nat) : Int) := by omega
              rw [e]
              exact atI_nat (by rw [List.getElem?_cons_succ]; exact ea)), ?_⟩
            refine ja_cons (jd_catT ?_)
            repeat walk_at "je"
            refine ⟨[.int (0 + (i : Int) + 1)], rfl, (by show 1 ≤ 16777216; decide), ?_⟩
            repeat walk_at "je"
            refine ⟨(by show ps.length + 1 ≤ 16777216; omega), ?_⟩
            repeat walk_at "je"
            rw [hsig i c hc]
            have hall2 : (args.take (i + 1)).all (wf (kidK (.tuple (.str s0 :: args)))) = wf (kidK (.tuple (.str s0 :: args))) args[i] := by
              rw [List.take_add_one, ea, List.all_append, hall]
              simp
            refine ⟨!joinS.contains s0, args[i], ps ++ [.int (0 + (i : Int) + 1)], rfl, kids_gd gd hm, by omega, by rw [List.length_append]; show ps.length + 1 + n' ≤ 100; omega, fun hw => ⟨_, rfl, ?_⟩, fun hw ps' => ⟨_, rfl, ?_⟩⟩
            · dsimp only
              repeat walk_at "je"
              refine ⟨fun z => (by cases z), fun _ => ?_⟩
              repeat walk_at "je"
              exact ⟨_, _, rfl, rfl, by rw [hall2]; exact hw⟩
            · dsimp only
              repeat walk_at "je"
              refine ⟨fun _ => ?_, fun z => (by cases z)⟩
              repeat walk_at "je"
              refine q2 ?_ ps'
              rw [wf_eq, hf, hk, Bool.true_and]
              exact List.all_eq_false.mpr ⟨args[i], List.getElem_mem hi, by
                have hw' : wf (kidK (.tuple (.str s0 :: args))) args[i] = false := hw
                rw [hw']
                decide⟩
          · obtain ⟨c5, c6, rfl, rfl, hall⟩ := hI
            rw [rngD_len] at hall
            repeat walk_at "je"
            have e3 : ((y.length : Int).toNat) = args.length := by omega
            refine q1 ?_
            rw [wf_eq, hf, hk, Bool.true_and]
            rw [show (args.take _) = args from List.take_of_length_le (by omega)] at hall
            exact hall
theorem ok_l_wrong_all {Wo : WO} {f : Addr} {fd : FuncData} {m : Nat} (F : Fun K "_law_wrong" "_law_wrong" s__law_wrong f fd) (u : Bu mg) (D1 : Def P w K Wo mg base m "_law_part_ok" 3 S_part_ok) (D3 : Def P w K Wo mg base m "_law_plan" 2 S_plan) (hm : mg "_law_wrong" = some (.ref f)) (b : Binds K fd ["_law_slots", "_law_goal", "_law_item", "_law_path_now"] []) :
    ∀ n, FnOk P w K mg base CX0 (m + n + 1) f fd ["_law_slots", "_law_goal", "_law_item", "_law_path_now"] (spD K Wo 4 (S_l_wrong n))
  | 0 => ok_l_wrong F u D1 D3 fun n' e => by cases e
  | n + 1 => ok_l_wrong F u (D1.mono (by omega)) (D3.mono (by omega)) fun n' e => by
    obtain rfl : n = n' := by omega
    exact Dl.Fun.def_ F (ok_l_wrong_all F u D1 D3 hm b n) hm b
end
end K01
end
section
set_option maxRecDepth 100000
set_option maxHeartbeats 4000000
namespace K01
open PySem PySem.Spec PyProof.Rows L2 Dl

local macro_rules | `(tactic| walk_at "nm") => `(tactic| first | refine jd_name 0 rfl ?_ | refine jd_name 1 rfl ?_ | refine jd_name 2 rfl ?_ | refine jd_name 3 rfl ?_ | refine jd_name 4 rfl ?_ | refine jd_name 5 rfl ?_ | refine jd_name 6 rfl ?_ | refine jd_name 7 rfl ?_ | refine jd_name 8 rfl ?_ | refine jd_name 9 rfl ?_ | refine jd_name 10 rfl ?_ | refine jd_name 11 rfl ?_ | refine jd_name 12 rfl ?_ | refine jd_name 13 rfl ?_)
local macro_rules | `(tactic| walk_at "sub") => `(tactic| fail)
local macro_rules | `(tactic| walk_at "call") => `(tactic| first | refine jd_len (by assumption) ?_ | refine jd_intc (by assumption) ?_ | refine jd_tupc (by assumption) ?_)
local macro_rules | `(tactic| walk_at "cmp") => `(tactic| first | refine jd_eq (by assumption) ?_ | refine jd_ne (by assumption) ?_)
local macro_rules | `(tactic| walk_at "cmpT") => `(tactic| first | refine jt_eq (by assumption) ?_ | refine jt_ne (by assumption) ?_)
local macro_rules | `(tactic| walk_at "callT") => `(tactic| refine jt_val ?_)
local macro_rules | `(tactic| walk_at "je") => `(tactic| first
  | with_reducible refine ⟨_, rfl, ?_⟩
  | (refine g_name ?_; walk_at "nm") | refine jd_int ?_ | refine jd_str ?_
  | (refine g_args ?_; refine ja_cons ?_) | refine ja_nil ?_ | refine jd_tup ?_
  | (refine g_call ?_; walk_at "call") | (refine g_sub ?_; walk_at "sub")
  | refine jd_add ?_ | refine jd_sub ?_ | refine jd_mul ?_ | refine jd_fdiv ?_ | refine jd_mod ?_ | refine jd_pow ?_
  | refine jt_lt ?_ | refine jt_le ?_ | refine jt_gt ?_ | refine jt_ge ?_ | refine jt_isN ?_ | refine jt_notN ?_ | refine jt_not ?_ | refine jw_and ?_ | refine jw_or ?_ | refine jw_and1 ?_ | refine jw_or1 ?_
  | (refine g_cmpT ?_; walk_at "cmpT") | (refine g_callT ?_; walk_at "callT")
  | refine jd_lt ?_ | refine jd_le ?_ | refine jd_gt ?_ | refine jd_ge ?_ | refine jd_isN ?_ | refine jd_notN ?_ | (refine g_cmp ?_; walk_at "cmp")
  | refine jd_bl ?_ | refine jd_non ?_
  | refine jd_if ?_ | refine jd_and ?_ | refine jd_or ?_ | refine jd_one ?_ | refine jd_not ?_ | refine jd_neg ?_
  | refine jo_none ?_ | refine jo_some ?_
  | refine jss_nil ?_ | refine jss_ret ?_ | refine jss_if0 ?_ | refine jss_if ?_ | refine jt_bop ?_
  | with_reducible refine And.intro (by assumption) ?_ | refine And.intro (show List.length _ = _ from rfl) ?_ | refine And.intro (Or.inl (by decide)) ?_ | refine And.intro (by decide : _ ≠ _) ?_ | refine And.intro ⟨by decide, by decide⟩ ?_ | refine And.intro ⟨by decide, by decide, by decide⟩ ?_
  | (dsimp only; first | refine jss_nil ?_ | refine jss_ret ?_))
local macro_rules | `(tactic| walk_at "call") => `(tactic| first | refine jd_isi (T := "int") (Ts := "int") rfl rfl (Bu.isi (by assumption)) rfl (Bu.int (by assumption)) boot_int' (by simp) ?_ | refine jd_isi (T := "bool") (Ts := "bool") rfl rfl (Bu.isi (by assumption)) rfl (Bu.bool (by assumption)) Dl.boot_bool (by simp) ?_ | refine jd_isi (T := "str") (Ts := "str") rfl rfl (Bu.isi (by assumption)) rfl (Bu.str (by assumption)) Dl.boot_str (by simp) ?_ | refine jd_isi (T := "tuple") (Ts := "tuple") rfl rfl (Bu.isi (by assumption)) rfl (Bu.tuple (by assumption)) Dl.boot_tuple (by simp) ?_ | refine jd_isi (T := "list") (Ts := "list") rfl rfl (Bu.isi (by assumption)) rfl (Bu.list (by assumption)) Dl.boot_list (by simp) ?_)
theorem eqvNilL (xs : List PyData) : PyData.eqv (.list xs) (.list []) = xs.isEmpty := by cases xs <;> simp [PyData.eqv, PyData.eqvAll]
theorem filt_empty {xs : List PyData} (c : PyData → Bool) : ((xs.filter c).map fun x => x).isEmpty = xs.all fun x => !c x := by
  rw [List.map_id']
  induction xs with
  | nil => rfl
  | cons x r ih =>
    rw [List.filter_cons, List.all_cons]
    cases h : c x with
    | true => rw [if_pos rfl]; rfl
    | false => rw [if_neg (by decide), ih]; rfl
theorem Gd.filt {xs : List PyData} (h : Gd (.tuple xs)) (c : PyData → Bool) : SeqAt.shaped (.list ((xs.filter c).map fun x => x)) = true := by
  rw [List.map_id']
  refine shaped_of (Fin.lay _ (FinA_iff.mpr fun x hx => FinA_iff.mp h.1 x (List.mem_filter.mp hx).1)) ?_
  have h3 := h.2.2
  simp only [PyData.depth] at h3 ⊢
  have : PyData.depthAll (xs.filter c) ≤ PyData.depthAll xs := depA_le fun x hx => dep_mem (List.mem_filter.mp hx).1
  omega
theorem sh_idx (n : Nat) (hn : n ≤ 50000) (c : PyData → Bool) (lo : Int) (h0 : 0 ≤ lo ∧ lo ≤ 1) : SeqAt.shaped (.list (((rngD lo n).filter c).map fun x => x)) = true := by
  rw [List.map_id']
  refine shaped_of (Fin.lay _ (FinA_iff.mpr fun x hx => ?_)) ?_
  · obtain ⟨i, hi, rfl⟩ := List.mem_map.mp (List.mem_filter.mp hx).1
    have hi' := List.mem_range.mp hi
    show (lo + (i : Int)).natAbs < 2 ^ 256
    exact Nat.lt_of_lt_of_le (show (lo + (i : Int)).natAbs < 60000 by omega) (by decide)
  · simp only [PyData.depth]
    have : PyData.depthAll ((rngD lo n).filter c) ≤ 0 := depA_le fun x hx => by
      obtain ⟨i, hi, rfl⟩ := List.mem_map.mp (List.mem_filter.mp hx).1
      simp only [PyData.depth]
      omega
    omega
section
variable {P : Program} {w : World} {K : PySem.W.Frag} {mg : Str → Option Value} {base : Heap}
theorem ok_l_sum {Wo : WO} {f : Addr} {fd : FuncData} {k : Nat} (F : Fun K "_law_is_sum" "_law_is_sum" s__law_is_sum f fd) (u : Bu mg) (D1 : Def P w K Wo mg base k "_law_is_integer" 1 S_is_integer) : FnOk P w K mg base CX0 (k + 1) f fd ["_law_thing", "_law_many"] (spD K Wo 2 S_is_sum) :=
  okD F sc__law_is_sum rfl fun cdv A outer s H E M bs t Q hr hl h => by
    obtain ⟨x, m, rfl, gd, q⟩ := h
    have nd := sc__law_is_sum.nd
    refine jss_if0 (jt_bop (jw_or (jt_not (jt_val ?_))))
    repeat walk_at "je"
    rw [isi_tup]
    cases x with
    | tuple xs =>
      have hlen := gd.lenT
      refine ⟨fun _ => ?_, fun z => (by cases z)⟩
      refine jw_or1 (jt_ne hr ?_)
      repeat walk_at "je"
      refine ⟨by omega, ?_⟩
      repeat walk_at "je"
      refine ⟨shInt _, shInt _, ?_⟩
      rw [eqvInt]
      refine ⟨fun h1 => ?_, fun h1 => ?_⟩
      · repeat walk_at "je"
        have h1' : decide ((xs.length : Int) = m) = false := by simpa using h1
        simp only [isSum, h1', Bool.and_false] at q
        exact q
      · have h1' : decide ((xs.length : Int) = m) = true := by simpa using h1
        refine jss_ret (jd_eq hr (JL.toD (jl_filt (own := [("_law_one", 2)]) (g := gName 2) (fun x => !isInt x) (fun x => x) rfl nd (blkOk_by (N := ["_law_thing", "_law_many", "_law_one"]) (sc := defScope s__law_is_sum) (by decide +kernel)) wipes1 (fun _ _ _ _ _ => pg_name (i := 2) nd rfl (Or.inl rfl)) (ji_tup ?_))))
        repeat walk_at "je"
        refine ⟨⟨by omega, fun x hx => ?_⟩, ?_⟩
        · refine dg_name fun s0 H0 C cl fp => jt_not (jt_val (jd_call D1 hr (Nat.le_refl _) rfl ?_))
          repeat walk_at "je"
          exact ⟨rfl, rfl, fun _ s1 H1 C1 cl1 fp1 => jd_name 2 rfl ⟨rfl, rfl⟩⟩
        · refine JL.toD (jl_lst (ja_nil ⟨[], rfl, by decide, gd.filt _, by decide +kernel, ?_⟩))
          rw [eqvNilL, filt_empty]
          have e : isSum m (.tuple xs) = xs.all fun x => !!isInt x := by simp only [isSum, h1', Bool.and_true, Bool.not_not]
          rw [e] at q
          exact q
    | _ =>
      refine ⟨fun z => (by cases z), fun _ => ⟨fun _ => ?_, fun z => (by cases z)⟩⟩
      repeat walk_at "je"
      exact q
theorem asc_all (nss : List (List Int)) (g : Nat → Bool) (h : ∀ i, i < nss.length - 1 → g i = HT.lexLt (nss.getD i []) (nss.getD (i + 1) [])) : (List.range (nss.length - 1)).all g = asc nss := by
  unfold asc
  exact all_congr' fun i hi => h i (List.mem_range.mp hi)
theorem ok_l_sums {Wo : WO} {f : Addr} {fd : FuncData} {k : Nat} (F : Fun K "_law_are_sums" "_law_are_sums" s__law_are_sums f fd) (u : Bu mg) (D1 : Def P w K Wo mg base k "_law_is_sum" 2 S_is_sum) : FnOk P w K mg base CX0 (k + 1) f fd ["_law_thing", "_law_many"] (spD K Wo 2 S_is_sums) :=
  okD F sc__law_are_sums rfl fun cdv A outer s H E M bs t Q hr hl h => by
    obtain ⟨x, m, rfl, gd, q⟩ := h
    have nd := sc__law_are_sums.nd
    refine jss_if0 (jt_bop (jw_or (jt_not (jt_val ?_))))
    repeat walk_at "je"
    rw [isi_tup]
    cases x with
    | tuple xs =>
      have hlen := gd.lenT
      refine ⟨fun _ => ?_, fun z => (by cases z)⟩
      refine jw_or1 (jt_ne hr (JL.toD (jl_filt (own := [("_law_one", 2)]) (g := gName 2) (fun x => !isSum m x) (fun x => x) rfl nd (blkOk_by (N := ["_law_thing", "_law_many", "_law_one", "_law_k"]) (sc := defScope s__law_are_sums) (by decide +kernel)) wipes1 (fun _ _ _ _ _ => pg_name (i := 2) nd rfl (Or.inl rfl)) (ji_tup ?_))))
      repeat walk_at "je"
      refine ⟨⟨by omega, fun x hx => ?_⟩, ?_⟩
      · refine dg_name fun s0 H0 C cl fp => jt_not (jt_val (jd_call D1 hr (Nat.le_refl _) rfl ?_))
        repeat walk_at "je"
        refine ⟨x, m, rfl, gd.memT hx, _, rfl, ?_⟩
        exact ⟨_, rfl, rfl, rfl, fun _ s1 H1 C1 cl1 fp1 => jd_name 2 rfl ⟨rfl, rfl⟩⟩
      · refine JL.toD (jl_lst (ja_nil ⟨[], rfl, by decide, gd.filt _, by decide +kernel, ?_⟩))
        rw [eqvNilL, filt_empty]
        refine ⟨fun h1 => ?_, fun h1 => ?_⟩
        · repeat walk_at "je"
          have h1' : xs.all (isSum m) = false := by simpa using h1
          simp only [isSums, h1', Bool.false_and] at q
          exact q
        · have h1' : xs.all (isSum m) = true := by simpa using h1
          have hxs := sums_ints h1'
          have hnl : (xs.map intsOf).length = xs.length := List.length_map _
          generalize hn : xs.map intsOf = nss at hxs hnl
          refine jss_ret (jd_eq hr (JL.toD (jl_filt (own := [("_law_k", 3)]) (g := gName 3) (fun x => match x with | .int j => !HT.lexLt (nss.getD (j - 1).toNat []) (nss.getD j.toNat []) | _ => false) (fun x => x) rfl nd (blkOk_by (N := ["_law_thing", "_law_many", "_law_one", "_law_k"]) (sc := defScope s__law_are_sums) (by decide +kernel)) wipes1 (fun _ _ _ _ _ => pg_name (i := 3) nd rfl (Or.inl rfl)) (ji_rng2 rfl u.range ?_))))
          repeat walk_at "je"
          refine ⟨by omega, ?_⟩
          repeat walk_at "je"
          refine ⟨⟨by decide, by decide, by omega, by omega⟩, ⟨by rw [rngD_len]; omega, fun x hx => ?_⟩, ?_⟩
          · obtain ⟨i, hi, rfl⟩ := List.mem_map.mp hx
            have hi' : i < nss.length - 1 := by
              have := List.mem_range.mp hi
              omega
            refine dg_name fun s0 H0 C cl fp => ?_
            refine jt_leT hr (jd_ixT ?_)
            repeat walk_at "je"
            have a1 : nss[i]? = some (nss.getD i []) := by rw [List.getElem?_eq_getElem (by omega)]; simp [List.getD, List.getElem?_eq_getElem (show i < nss.length by omega)]
            have a2 : nss[i + 1]? = some (nss.getD (i + 1) []) := by rw [List.getElem?_eq_getElem (by omega)]; simp [List.getD, List.getElem?_eq_getElem (show i + 1 < nss.length by omega)]
            refine ⟨_, .tuple ((nss.getD (i + 1) []).map PyData.int), rfl, ?_, nss.getD (i + 1) [], rfl, jd_ixT ?_⟩
            · have e : (1 + (i : Int)) = ((i + 1 : Nat) : Int) := by omega
              rw [e]
              refine atI_nat ?_
              rw [hxs, List.getElem?_map, a2]
              rfl
            · repeat walk_at "je"
              refine ⟨_, .tuple ((nss.getD i []).map PyData.int), rfl, ?_, nss.getD i [], rfl, ?_⟩
              · have e : (1 + (i : Int) - 1) = ((i : Nat) : Int) := by omega
                rw [e]
                refine atI_nat ?_
                rw [hxs, List.getElem?_map, a1]
                rfl
              · have e1 : (1 + (i : Int) - 1).toNat = i := by omega
                have e2 : (1 + (i : Int)).toNat = i + 1 := by omega
                refine ⟨?_, rfl, fun _ s1 H1 C1 cl1 fp1 => jd_name 3 rfl ⟨rfl, rfl⟩⟩
                show _ = !HT.lexLt (nss.getD (1 + (i : Int) - 1).toNat []) (nss.getD (1 + (i : Int)).toNat [])
                rw [e1, e2]
          · refine JL.toD (jl_lst (ja_nil ⟨[], rfl, by decide, sh_idx _ (by omega) _ 1 (by decide), by decide +kernel, ?_⟩))
            rw [eqvNilL, filt_empty]
            have e0 : ((xs.length : Int) - 1).toNat = nss.length - 1 := by omega
            rw [e0, rngD, List.all_map, asc_all nss _ fun i hi => ?_]
            · simp only [isSums, h1', Bool.true_and, hn] at q
              exact q
            · have e1 : (1 + (i : Int) - 1).toNat = i := by omega
              have e2 : (1 + (i : Int)).toNat = i + 1 := by omega
              show (!!HT.lexLt (nss.getD (1 + (i : Int) - 1).toNat []) (nss.getD (1 + (i : Int)).toNat [])) = _
              rw [e1, e2, Bool.not_not]
    | _ =>
      refine ⟨fun z => (by cases z), fun _ => ⟨fun _ => ?_, fun z => (by cases z)⟩⟩
      repeat walk_at "je"
      exact q
end
end K01
end
section
set_option maxRecDepth 100000
set_option maxHeartbeats 4000000
namespace K01
open PySem PySem.Spec PyProof.Rows L2 Dl

local macro_rules | `(tactic| walk_at "nm") => `(tactic| first | refine jd_name 0 rfl ?_ | refine jd_name 1 rfl ?_ | refine jd_name 2 rfl ?_ | refine jd_name 3 rfl ?_ | refine jd_name 4 rfl ?_ | refine jd_name 5 rfl ?_ | refine jd_name 6 rfl ?_ | refine jd_name 7 rfl ?_ | refine jd_name 8 rfl ?_ | refine jd_name 9 rfl ?_ | refine jd_name 10 rfl ?_ | refine jd_name 11 rfl ?_ | refine jd_name 12 rfl ?_ | refine jd_name 13 rfl ?_)
local macro_rules | `(tactic| walk_at "sub") => `(tactic| fail)
local macro_rules | `(tactic| walk_at "call") => `(tactic| first | refine jd_len (by assumption) ?_ | refine jd_intc (by assumption) ?_ | refine jd_tupc (by assumption) ?_)
local macro_rules | `(tactic| walk_at "cmp") => `(tactic| first | refine jd_eq (by assumption) ?_ | refine jd_ne (by assumption) ?_)
local macro_rules | `(tactic| walk_at "cmpT") => `(tactic| first | refine jt_eq (by assumption) ?_ | refine jt_ne (by assumption) ?_)
local macro_rules | `(tactic| walk_at "callT") => `(tactic| refine jt_val ?_)
local macro_rules | `(tactic| walk_at "je") => `(tactic| first
  | with_reducible refine ⟨_, rfl, ?_⟩
  | (refine g_name ?_; walk_at "nm") | refine jd_int ?_ | refine jd_str ?_
  | (refine g_args ?_; refine ja_cons ?_) | refine ja_nil ?_ | refine jd_tup ?_
  | (refine g_call ?_; walk_at "call") | (refine g_sub ?_; walk_at "sub")
  | refine jd_add ?_ | refine jd_sub ?_ | refine jd_mul ?_ | refine jd_fdiv ?_ | refine jd_mod ?_ | refine jd_pow ?_
  | refine jt_lt ?_ | refine jt_le ?_ | refine jt_gt ?_ | refine jt_ge ?_ | refine jt_isN ?_ | refine jt_notN ?_ | refine jt_not ?_ | refine jw_and ?_ | refine jw_or ?_ | refine jw_and1 ?_ | refine jw_or1 ?_
  | (refine g_cmpT ?_; walk_at "cmpT") | (refine g_callT ?_; walk_at "callT")
  | refine jd_lt ?_ | refine jd_le ?_ | refine jd_gt ?_ | refine jd_ge ?_ | refine jd_isN ?_ | refine jd_notN ?_ | (refine g_cmp ?_; walk_at "cmp")
  | refine jd_bl ?_ | refine jd_non ?_
  | refine jd_if ?_ | refine jd_and ?_ | refine jd_or ?_ | refine jd_one ?_ | refine jd_not ?_ | refine jd_neg ?_
  | refine jo_none ?_ | refine jo_some ?_
  | refine jss_nil ?_ | refine jss_ret ?_ | refine jss_if0 ?_ | refine jss_if ?_ | refine jt_bop ?_
  | with_reducible refine And.intro (by assumption) ?_ | refine And.intro (show List.length _ = _ from rfl) ?_ | refine And.intro (Or.inl (by decide)) ?_ | refine And.intro (by decide : _ ≠ _) ?_ | refine And.intro ⟨by decide, by decide⟩ ?_ | refine And.intro ⟨by decide, by decide, by decide⟩ ?_
  | (dsimp only; first | refine jss_nil ?_ | refine jss_ret ?_))
local macro_rules | `(tactic| walk_at "call") => `(tactic| first | refine jd_isi (T := "int") (Ts := "int") rfl rfl (Bu.isi (by assumption)) rfl (Bu.int (by assumption)) boot_int' (by simp) ?_ | refine jd_isi (T := "bool") (Ts := "bool") rfl rfl (Bu.isi (by assumption)) rfl (Bu.bool (by assumption)) Dl.boot_bool (by simp) ?_ | refine jd_isi (T := "str") (Ts := "str") rfl rfl (Bu.isi (by assumption)) rfl (Bu.str (by assumption)) Dl.boot_str (by simp) ?_ | refine jd_isi (T := "tuple") (Ts := "tuple") rfl rfl (Bu.isi (by assumption)) rfl (Bu.tuple (by assumption)) Dl.boot_tuple (by simp) ?_ | refine jd_isi (T := "list") (Ts := "list") rfl rfl (Bu.isi (by assumption)) rfl (Bu.list (by assumption)) Dl.boot_list (by simp) ?_)
local macro_rules | `(tactic| walk_at "je") => `(tactic| refine ja_rd 0 rfl ?_)
mutual
def finB : PyData → Bool
  | .none => true
  | .bool _ => true
  | .int i => decide (i.natAbs ≤ 12)
  | .str y => y.cps.toList.all fun c => decide (c < 128)
  | .list xs => finAB xs
  | .tuple xs => finAB xs
  | .dict _ => false
def finAB : List PyData → Bool
  | [] => true
  | x :: xs => finB x && finAB xs
end
mutual
def Fk (c : Nat) : PyData → Prop
  | .none => True
  | .bool _ => True
  | .int i => i.natAbs ≤ c
  | .str y => ∀ c ∈ y.cps.toList, c < 128
  | .list xs => FkA c xs
  | .tuple xs => FkA c xs
  | .dict _ => False
def FkA (c : Nat) : List PyData → Prop
  | [] => True
  | x :: xs => Fk c x ∧ FkA c xs
end
theorem FkA_iff {c : Nat} : ∀ {xs : List PyData}, FkA c xs ↔ ∀ x ∈ xs, Fk c x
  | [] => by simp [FkA]
  | x :: xs => by
    rw [FkA, FkA_iff]
    simp
mutual
theorem Fk.mono {c d : Nat} (h : c ≤ d) : ∀ x : PyData, Fk c x → Fk d x
  | .none, _ => trivial
  | .bool _, _ => trivial
  | .int i, q => Nat.le_trans q h
  | .str _, q => q
  | .list xs, q => FkA.mono h xs q
  | .tuple xs, q => FkA.mono h xs q
  | .dict _, q => q
theorem FkA.mono {c d : Nat} (h : c ≤ d) : ∀ xs : List PyData, FkA c xs → FkA d xs
  | [], _ => trivial
  | x :: xs, q => ⟨Fk.mono h x q.1, FkA.mono h xs q.2⟩
end
mutual
theorem Fk.fin {c : Nat} (h : c < 2 ^ 256) : ∀ x : PyData, Fk c x → Fin x
  | .none, _ => trivial
  | .bool _, _ => trivial
  | .int i, q => Nat.lt_of_le_of_lt q h
  | .str _, q => q
  | .list xs, q => FkA.fin h xs q
  | .tuple xs, q => FkA.fin h xs q
  | .dict _, q => q
theorem FkA.fin {c : Nat} (h : c < 2 ^ 256) : ∀ xs : List PyData, FkA c xs → FinA xs
  | [], _ => trivial
  | x :: xs, q => ⟨Fk.fin h x q.1, FkA.fin h xs q.2⟩
end
mutual
theorem fin_of : ∀ x : PyData, finB x = true → Fk 12 x
  | .none, _ => trivial
  | .bool _, _ => trivial
  | .int i, h => by
    simp only [finB] at h
    exact of_decide_eq_true (p := i.natAbs ≤ 12) h
  | .str y, h => fun c hc => by
    simp only [finB] at h
    exact of_decide_eq_true (List.all_eq_true.mp h c hc)
  | .list xs, h => by
    simp only [finB] at h
    exact finA_of xs h
  | .tuple xs, h => by
    simp only [finB] at h
    exact finA_of xs h
  | .dict _, h => by simp [finB] at h
theorem finA_of : ∀ xs : List PyData, finAB xs = true → FkA 12 xs
  | [], _ => trivial
  | x :: xs, h => by
    simp only [finAB, Bool.and_eq_true] at h
    exact ⟨fin_of x h.1, finA_of xs h.2⟩
end
def Adv (n : Nat) (t t' : Rs) : Prop := t'.ns = t.ns ∧ t.draws ≤ t'.draws ∧ t'.draws ≤ t.draws + n
def RdOk (n : Nat) (t : Rs) : Prop := t.ns.length ≤ 63 ∧ 0 ≤ t.draws ∧ t.draws + n < 1000000000000
def Gx (N D : Nat) (x : PyData) : Prop := Fk 12 x ∧ sz x ≤ N ∧ x.depth ≤ D
theorem Gx.mono {N N' D D' : Nat} {x : PyData} (h : Gx N D x) (hn : N ≤ N') (hd : D ≤ D') : Gx N' D' x := ⟨h.1, by have := h.2.1; omega, by have := h.2.2; omega⟩
theorem Adv.refl (t : Rs) : Adv 0 t t := ⟨rfl, by omega, by omega⟩
theorem Adv.trans {n m : Nat} {t t1 t2 : Rs} (h : Adv n t t1) (h2 : Adv m t1 t2) : Adv (n + m) t t2 := ⟨h2.1.trans h.1, by have := h.2.1; have := h2.2.1; omega, by have := h.2.2; have := h2.2.2; omega⟩
theorem Adv.mono {n m : Nat} {t t1 : Rs} (h : Adv n t t1) (h2 : n ≤ m) : Adv m t t1 := ⟨h.1, h.2.1, by have := h.2.2; omega⟩
theorem Adv.one {t t1 : Rs} (h : t1.ns = t.ns) (h2 : t1.draws = t.draws + 1) : Adv 1 t t1 := ⟨h, by omega, by omega⟩
theorem RdOk.adv {n m : Nat} {t t1 : Rs} (h : RdOk (n + m) t) (a : Adv n t t1) : RdOk m t1 := ⟨by rw [a.1]; exact h.1, by have := h.2.1; have := a.2.1; omega, by have := h.2.2; have := a.2.2; omega⟩
theorem RdOk.mono {n m : Nat} {t : Rs} (h : RdOk n t) (e : m ≤ n) : RdOk m t := ⟨h.1, h.2.1, by have := h.2.2; omega⟩
theorem atI_lt {xs : List PyData} {i : Int} (h : 0 ≤ i) (h2 : i < xs.length) : ∃ z, z ∈ xs ∧ atI xs i = some z := by
  obtain ⟨j, rfl⟩ : ∃ j : Nat, i = (j : Int) := ⟨i.toNat, (Int.toNat_of_nonneg h).symm⟩
  have hj : j < xs.length := by omega
  exact ⟨xs[j], List.getElem_mem hj, atI_nat (List.getElem?_eq_getElem hj)⟩
theorem Gx.tup {N D M E : Nat} {xs : List PyData} (h : FkA 12 xs) (h1 : 1 + szA xs ≤ M) (h2 : PyData.depthAll xs + 1 ≤ E) : Gx M E (.tuple xs) := ⟨h, by rw [sz]; exact h1, by simp only [PyData.depth]; omega⟩
def slotsD : PyData := .tuple [.str "coins", .str "x"]
section
variable {P : Program} {w : World} {K : PySem.W.Frag} {mg : Str → Option Value} {base : Heap}
/-- a draw, by what it leaves -/
abbrev S_drw : List B → Rs → (B → Rs → Prop) → Prop := fun bs t Q => ∃ m : Int, bs = [.rd, .d (.int m)] ∧ (0 < m ∧ m < 1073741824) ∧ RdOk 1 t ∧ ∀ (i : Int) (t' : Rs), 0 ≤ i ∧ i < m → Adv 1 t t' → Q (.d (.int i)) t'
theorem drw {Wo : WO} {k : Nat} (D : Def P w K Wo mg base k "_law_draw" 2 S_draw) : Def P w K Wo mg base k "_law_draw" 2 S_drw := D.imp fun bs t Q ⟨m, e, ⟨a, b⟩, ⟨c1, c2, c3⟩, q⟩ => ⟨m, e, a, b, c1, c2, by omega, fun i t' h1 h2 h3 h4 => q i t' ⟨h1, h2⟩ (Adv.one h3 h4)⟩
abbrev S_leaf : List B → Rs → (B → Rs → Prop) → Prop := fun bs t Q => bs = [.rd, .d slotsD] ∧ RdOk 2 t ∧ ∀ (x : PyData) (t' : Rs), Gx 20 1 x → Adv 2 t t' → Q (.d x) t'
theorem ok_leaf {Wo : WO} {f : Addr} {fd : FuncData} {k : Nat} (F : Fun K "_law_leaf" "_law_leaf" s__law_leaf f fd) (u : Bu mg) (D1 : Def P w K Wo mg base k "_law_draw" 2 S_drw) : FnOk P w K mg base CX0 (k + 1) f fd ["_law_reader_here", "_law_slots"] (spD K Wo 2 S_leaf) :=
  okD F sc__law_leaf rfl fun cdv A outer s H E M bs t Q hr hl h => by
    obtain ⟨rfl, ro, q⟩ := h
    refine jss_if0 (jt_eq hr (jd_call D1 hr (Nat.le_refl _) rfl ?_))
    repeat walk_at "je"
    refine ⟨ro.mono (by decide), fun i t1 hi a1 => ⟨_, rfl, ?_⟩⟩
    repeat walk_at "je"
    refine ⟨shInt _, shInt _, ?_⟩
    have r1 : RdOk 1 t1 := ro.adv a1
    rw [eqvInt]
    refine ⟨fun h1 => ?_, fun h1 => ?_⟩
    · refine jss_ret (jd_ixL (JL.toD (jl_lst ?_)))
      repeat walk_at "je"
      refine ⟨[.int 0, .int 1, .int 2, .int (-1), .int 3, .int (-7), .int 12, .int 1], rfl, (by decide : 8 ≤ 16777216), _, rfl, ?_⟩
      refine jd_call D1 hr (Nat.le_refl _) rfl ?_
      repeat walk_at "je"
      refine fun j t2 hj a2 => ⟨_, rfl, ?_⟩
      obtain ⟨z, hz, ez⟩ := atI_lt (xs := [.int 0, .int 1, .int 2, .int (-1), .int 3, .int (-7), .int 12, .int 1]) hj.1 hj.2
      refine ⟨j, z, rfl, ez, q z t2 ?_ (a1.trans a2)⟩
      simp only [List.mem_cons, List.not_mem_nil, or_false] at hz
      rcases hz with rfl | rfl | rfl | rfl | rfl | rfl | rfl | rfl <;> exact ⟨fin_of _ (by decide +kernel), by decide +kernel, by decide +kernel⟩
    · refine jss_ret (jd_tup (ja_cons (jd_str (ja_cons (jd_ixT ?_)))))
      repeat walk_at "je"
      refine jd_call D1 hr (Nat.le_refl _) rfl ?_
      repeat walk_at "je"
      refine ⟨by decide, ?_⟩
      repeat walk_at "je"
      refine fun j t2 hj a2 => ⟨_, rfl, ?_⟩
      obtain ⟨z, hz, ez⟩ := atI_lt (xs := [.str "coins", .str "x"]) hj.1 hj.2
      refine ⟨j, z, rfl, ez, ?_⟩
      repeat walk_at "je"
      refine ⟨[.str "item", z], rfl, (by decide : 2 ≤ 16777216), q _ t2 ?_ (a1.trans a2)⟩
      simp only [List.mem_cons, List.not_mem_nil, or_false] at hz
      rcases hz with rfl | rfl <;> exact ⟨fin_of _ (by decide +kernel), by decide +kernel, by decide +kernel⟩
def dn : Nat → Nat
  | 0 => 3
  | n + 1 => 1 + (dn n + dn n)
def sn : Nat → Nat
  | 0 => 20
  | n + 1 => 5 + (sn n + sn n)
theorem dn_ge : ∀ n, 3 ≤ dn n
  | 0 => by decide
  | n + 1 => by have := dn_ge n; rw [dn]; omega
theorem sn_ge : ∀ n, 20 ≤ sn n
  | 0 => by decide
  | n + 1 => by have := sn_ge n; rw [sn]; omega
theorem Gx.op {N M D : Nat} {x y z : PyData} (hz : Gx 4 0 z) (hx : Gx N D x) (hy : Gx M D y) : Gx (5 + (N + M)) (D + 1) (.tuple [z, x, y]) := by
  refine Gx.tup (N := 0) (D := 0) ⟨hz.1, hx.1, hy.1, trivial⟩ ?_ ?_
  · simp only [szA]
    have := hx.2.1
    have := hy.2.1
    have := hz.2.1
    omega
  · simp only [PyData.depthAll]
    have := hx.2.2
    have := hy.2.2
    have := hz.2.2
    omega
abbrev S_num (n : Nat) : List B → Rs → (B → Rs → Prop) → Prop := fun bs t Q => ∃ d : Int, bs = [.rd, .d slotsD, .d (.int d)] ∧ d ≤ n ∧ RdOk (dn n) t ∧ ∀ (x : PyData) (t' : Rs), Gx (sn n) (n + 1) x → Adv (dn n) t t' → Q (.d x) t'
theorem ok_num {Wo : WO} {f : Addr} {fd : FuncData} {k n : Nat} (F : Fun K "_law_number" "_law_number" s__law_number f fd) (u : Bu mg) (D1 : Def P w K Wo mg base k "_law_draw" 2 S_drw) (D2 : Def P w K Wo mg base k "_law_leaf" 2 S_leaf) (Dr : ∀ n', n = n' + 1 → Def P w K Wo mg base k "_law_number" 3 (S_num n')) : FnOk P w K mg base CX0 (k + 1) f fd ["_law_reader_here", "_law_slots", "_law_deep"] (spD K Wo 3 (S_num n)) :=
  okD F sc__law_number rfl fun cdv A outer s H E M bs t Q hr hl h => by
    obtain ⟨d, rfl, hd, ro, q⟩ := h
    have nd := sc__law_number.nd
    have d3 := dn_ge n
    have s3 := sn_ge n
    have r1 : RdOk 1 t := ro.mono (by omega)
    refine jss_set 3 nd (jd_call D1 hr (Nat.le_refl _) rfl ?_)
    repeat walk_at "je"
    refine fun way t1 hw a1 => ⟨_, rfl, ?_⟩
    have ro1 : RdOk (dn n - 1) t1 := RdOk.adv (n := 1) (by rw [show 1 + (dn n - 1) = dn n by omega]; exact ro) a1
    have r2 : RdOk 2 t1 := ro1.mono (by omega)
    have last : ∀ (x : PyData) (t' : Rs), Gx 20 1 x → Adv 2 t1 t' → Q (.d x) t' := fun x t' gx a2 => q x t' (gx.mono s3 (by omega)) ((a1.trans a2).mono (by omega))
    refine jss_if0 (jt_bop (jw_or ?_))
    repeat walk_at "je"
    refine ⟨fun h1 => ?_, fun h1 => ⟨fun _ => ?_, fun z => (by cases z)⟩⟩
    · refine jw_or1 (jt_eq hr ?_)
      repeat walk_at "je"
      refine ⟨shInt _, shInt _, ?_⟩
      rw [eqvInt]
      refine ⟨fun h2 => ?_, fun h2 => ?_⟩
      · refine jss_ret (jd_call D2 hr (Nat.le_refl _) rfl ?_)
        repeat walk_at "je"
        exact ⟨rfl, r2, fun x t2 gx a2 => ⟨_, rfl, last x t2 gx a2⟩⟩
      · have h1' : ¬ d < 1 := of_decide_eq_false h1
        have h2' : ¬ way = 0 := of_decide_eq_false h2
        obtain ⟨n', rfl⟩ : ∃ n', n = n' + 1 := ⟨n - 1, by omega⟩
        have ro2 : RdOk (dn n' + dn n') t1 := by rw [dn] at ro1; exact ro1.mono (by omega)
        have r3 : RdOk (dn n') t1 := ro2.mono (by omega)
        refine jss_set 4 nd (jd_call (Dr n' rfl) hr (Nat.le_refl _) rfl ?_)
        repeat walk_at "je"
        refine ⟨by omega, r3, fun x t2 gx a2 => ⟨_, rfl, ?_⟩⟩
        have r4 : RdOk (dn n') t2 := ro2.adv a2
        refine jss_ret (jd_tup (ja_cons (jd_ixL (JL.toD (jl_lst ?_)))))
        repeat walk_at "je"
        refine ⟨[.str "+", .str "-", .str "*"], rfl, (by decide : 3 ≤ 16777216), ?_⟩
        repeat walk_at "je"
        obtain ⟨z, hz, ez⟩ := atI_lt (xs := [.str "+", .str "-", .str "*"]) (i := way - 1) (by omega) (by show way - 1 < 3; omega)
        refine ⟨_, z, rfl, ez, ?_⟩
        repeat walk_at "je"
        refine jd_call (Dr n' rfl) hr (Nat.le_refl _) rfl ?_
        repeat walk_at "je"
        refine ⟨by omega, r4, fun y t3 gy a3 => ⟨_, rfl, ?_⟩⟩
        repeat walk_at "je"
        refine ⟨[z, x, y], rfl, (by show 3 ≤ 16777216; decide), q _ t3 ?_ ((a1.trans (a2.trans a3)).mono (by rw [dn]; omega))⟩
        have gz : Gx 4 0 z := by
          simp only [List.mem_cons, List.not_mem_nil, or_false] at hz
          rcases hz with rfl | rfl | rfl <;> exact ⟨fin_of _ (by decide +kernel), by decide +kernel, by decide +kernel⟩
        exact (gz.op gx gy).mono (by rw [sn]; omega) (Nat.le_refl _)
    · refine jss_ret (jd_call D2 hr (Nat.le_refl _) rfl ?_)
      repeat walk_at "je"
      exact ⟨rfl, r2, fun x t2 gx a2 => ⟨_, rfl, last x t2 gx a2⟩⟩
theorem ok_num_all {Wo : WO} {f : Addr} {fd : FuncData} {m : Nat} (F : Fun K "_law_number" "_law_number" s__law_number f fd) (u : Bu mg) (D1 : Def P w K Wo mg base m "_law_draw" 2 S_drw) (D2 : Def P w K Wo mg base m "_law_leaf" 2 S_leaf) (hm : mg "_law_number" = some (.ref f)) (b : Binds K fd ["_law_reader_here", "_law_slots", "_law_deep"] []) :
    ∀ n, FnOk P w K mg base CX0 (m + n + 1) f fd ["_law_reader_here", "_law_slots", "_law_deep"] (spD K Wo 3 (S_num n))
  | 0 => ok_num F u D1 D2 fun n' e => by cases e
  | n + 1 => ok_num F u (D1.mono (by omega)) (D2.mono (by omega)) fun n' e => by
    obtain rfl : n = n' := by omega
    exact Dl.Fun.def_ F (ok_num_all F u D1 D2 hm b n) hm b
def cn : Nat → Nat
  | 0 => 3 + dn 0
  | n + 1 => 3 + dn (n + 1) + (cn n + cn 0)
def en : Nat → Nat
  | 0 => 25 + sn 0
  | n + 1 => 25 + sn (n + 1) + (en n + en 0)
theorem cn_ge : ∀ n, 3 + dn n ≤ cn n
  | 0 => Nat.le_of_eq (by rw [cn])
  | n + 1 => by rw [cn]; omega
theorem en_ge : ∀ n, 25 + sn n ≤ en n
  | 0 => Nat.le_of_eq (by rw [en])
  | n + 1 => by rw [en]; omega
abbrev S_cond (n : Nat) : List B → Rs → (B → Rs → Prop) → Prop := fun bs t Q => ∃ d : Int, bs = [.rd, .d slotsD, .d (.int d)] ∧ d ≤ n ∧ RdOk (cn n) t ∧ ∀ (x : PyData) (t' : Rs), Gx (en n) (n + 2) x → Adv (cn n) t t' → Q (.d x) t'
theorem ok_cond {Wo : WO} {f : Addr} {fd : FuncData} {k n : Nat} (F : Fun K "_law_condition" "_law_condition" s__law_condition f fd) (u : Bu mg) (D1 : Def P w K Wo mg base k "_law_draw" 2 S_drw) (D2 : Def P w K Wo mg base k "_law_leaf" 2 S_leaf) (D3 : Def P w K Wo mg base k "_law_number" 3 (S_num n)) (Dr : ∀ n', n = n' + 1 → Def P w K Wo mg base k "_law_condition" 3 (S_cond n') ∧ Def P w K Wo mg base k "_law_condition" 3 (S_cond 0)) : FnOk P w K mg base CX0 (k + 1) f fd ["_law_reader_here", "_law_slots", "_law_deep"] (spD K Wo 3 (S_cond n)) :=
  okD F sc__law_condition rfl fun cdv A outer s H E M bs t Q hr hl h => by
    obtain ⟨d, rfl, hd, ro, q⟩ := h
    have nd := sc__law_condition.nd
    have c3 := cn_ge n
    have e3 := en_ge n
    have r1 : RdOk 1 t := ro.mono (by omega)
    refine jss_set 3 nd (jd_call D1 hr (Nat.le_refl _) rfl ?_)
    repeat walk_at "je"
    refine fun way t1 hw a1 => ⟨_, rfl, ?_⟩
    have ro1 : RdOk (cn n - 1) t1 := RdOk.adv (n := 1) (by rw [show 1 + (cn n - 1) = cn n by omega]; exact ro) a1
    have r2 : RdOk 2 t1 := ro1.mono (by omega)
    have rn : RdOk (2 + dn n) t1 := ro1.mono (by omega)
    have last : ∀ z x y t', Gx 4 0 z → Gx 20 1 x → Gx (sn n) (n + 1) y → Adv (2 + dn n) t1 t' → Q (.d (.tuple [z, x, y])) t' := fun z x y t' gz gx gy a2 => q _ t' ((gz.op (gx.mono (Nat.le_refl _) (by omega)) gy).mono (by omega) (Nat.le_refl _)) ((a1.trans a2).mono (by omega))
    have pick : ∀ z, z ∈ [PyData.str "=", .str "<"] → Gx 4 0 z := fun z hz => by
      simp only [List.mem_cons, List.not_mem_nil, or_false] at hz
      rcases hz with rfl | rfl <;> exact ⟨fin_of _ (by decide +kernel), by decide +kernel, by decide +kernel⟩
    have pick2 : ∀ z, z ∈ [PyData.str "and", .str "or"] → Gx 4 0 z := fun z hz => by
      simp only [List.mem_cons, List.not_mem_nil, or_false] at hz
      rcases hz with rfl | rfl <;> exact ⟨fin_of _ (by decide +kernel), by decide +kernel, by decide +kernel⟩
    refine jss_if0 (jt_imp (P := fun kk t' => t' = t1 ∧ (kk = false → ¬ d < 1 ∧ ¬ way < 2)) ?_ fun kk t' ⟨et, hk⟩ => And.intro (fun hkk => ?_) fun hkk => ?_)
    · refine jt_bop (jw_or ?_)
      repeat walk_at "je"
      refine ⟨fun h1 => ?_, fun _ => ⟨rfl, fun z => (by cases z)⟩⟩
      refine jw_or1 ?_
      repeat walk_at "je"
      exact ⟨rfl, fun h2 => ⟨of_decide_eq_false h1, of_decide_eq_false h2⟩⟩
    · subst et
      refine jss_ret (jd_tup (ja_cons (jd_ixL (JL.toD (jl_lst ?_)))))
      repeat walk_at "je"
      refine ⟨[.str "=", .str "<"], rfl, (by decide : 2 ≤ 16777216), ?_⟩
      repeat walk_at "je"
      have hw3 : 0 ≤ way.fdiv 3 ∧ way.fdiv 3 < 2 := by
        rw [Int.fdiv_eq_ediv_of_nonneg _ (by decide)]
        omega
      obtain ⟨z, hz, ez⟩ := atI_lt (xs := [.str "=", .str "<"]) hw3.1 hw3.2
      refine ⟨_, z, rfl, ez, ?_⟩
      refine ja_cons (jd_call D2 hr (Nat.le_refl _) rfl ?_)
      repeat walk_at "je"
      refine ⟨rfl, r2, fun x t2 gx a2 => ⟨_, rfl, ?_⟩⟩
      have r3 : RdOk (dn n) t2 := rn.adv a2
      refine ja_cons (jd_call D3 hr (Nat.le_refl _) rfl ?_)
      repeat walk_at "je"
      refine ⟨by omega, r3, fun y t3 gy a3 => ⟨_, rfl, ?_⟩⟩
      repeat walk_at "je"
      exact ⟨[z, x, y], rfl, (by show 3 ≤ 16777216; decide), last z x y t3 (pick z hz) gx gy (a2.trans a3)⟩
    · subst et
      obtain ⟨h1, h2⟩ := hk hkk
      obtain ⟨n', rfl⟩ : ∃ n', n = n' + 1 := ⟨n - 1, by omega⟩
      have ec : cn (n' + 1) = 3 + dn (n' + 1) + (cn n' + cn 0) := cn.eq_2 n'
      have ee : en (n' + 1) = 25 + sn (n' + 1) + (en n' + en 0) := en.eq_2 n'
      have rc : RdOk (cn n' + cn 0) t' := ro1.mono (by omega)
      have rc1 : RdOk (cn n') t' := ro1.mono (by omega)
      obtain ⟨Dr1, Dr0⟩ := Dr n' rfl
      refine jss_set 4 nd (jd_call Dr1 hr (Nat.le_refl _) rfl ?_)
      repeat walk_at "je"
      refine ⟨by omega, rc1, fun x t2 gx a2 => ⟨_, rfl, ?_⟩⟩
      have r4 : RdOk (cn 0) t2 := rc.adv a2
      repeat walk_at "je"
      refine ⟨fun h3 => ?_, fun h3 => ?_⟩
      · repeat walk_at "je"
        refine ⟨[.str "not", x], rfl, (by show 2 ≤ 16777216; decide), q _ t2 ?_ ((a1.trans a2).mono (by omega))⟩
        refine Gx.tup (N := 0) (D := 0) ⟨fin_of _ (by decide +kernel), gx.1, trivial⟩ ?_ ?_
        · have : sz (.str "not") = 4 := by decide +kernel
          simp only [szA]
          have := gx.2.1
          omega
        · have : (PyData.str "not").depth = 0 := by decide +kernel
          simp only [PyData.depthAll]
          have := gx.2.2
          omega
      · have h3' : ¬ way < 4 := of_decide_eq_false h3
        refine jss_ret (jd_tup (ja_cons (jd_ixL (JL.toD (jl_lst ?_)))))
        repeat walk_at "je"
        refine ⟨[.str "and", .str "or"], rfl, (by decide : 2 ≤ 16777216), ?_⟩
        repeat walk_at "je"
        obtain ⟨z, hz, ez⟩ := atI_lt (xs := [.str "and", .str "or"]) (i := way - 4) (by omega) (by show way - 4 < 2; omega)
        refine ⟨_, z, rfl, ez, ?_⟩
        repeat walk_at "je"
        refine jd_call Dr0 hr (Nat.le_refl _) rfl ?_
        repeat walk_at "je"
        refine ⟨by omega, r4, fun y t3 gy a3 => ⟨_, rfl, ?_⟩⟩
        repeat walk_at "je"
        refine ⟨[z, x, y], rfl, (by show 3 ≤ 16777216; decide), q _ t3 (((pick2 z hz).op gx (gy.mono (Nat.le_refl _) (by omega))).mono (by omega) (Nat.le_refl _)) ((a1.trans (a2.trans a3)).mono (by omega))⟩
theorem ok_cond_all {Wo : WO} {f : Addr} {fd : FuncData} {m N : Nat} (F : Fun K "_law_condition" "_law_condition" s__law_condition f fd) (u : Bu mg) (D1 : Def P w K Wo mg base m "_law_draw" 2 S_drw) (D2 : Def P w K Wo mg base m "_law_leaf" 2 S_leaf) (D3 : ∀ n, n ≤ N → Def P w K Wo mg base m "_law_number" 3 (S_num n)) (hm : mg "_law_condition" = some (.ref f)) (b : Binds K fd ["_law_reader_here", "_law_slots", "_law_deep"] []) :
    ∀ n, n ≤ N → FnOk P w K mg base CX0 (m + n + 1) f fd ["_law_reader_here", "_law_slots", "_law_deep"] (spD K Wo 3 (S_cond n))
  | 0, hN => ok_cond F u D1 D2 (D3 0 hN) fun n' e => by cases e
  | n + 1, hN => ok_cond F u (D1.mono (by omega)) (D2.mono (by omega)) ((D3 (n + 1) hN).mono (by omega)) fun n' e => by
    obtain rfl : n = n' := by omega
    exact ⟨Dl.Fun.def_ F (ok_cond_all F u D1 D2 D3 hm b n (by omega)) hm b, (Dl.Fun.def_ F (ok_cond_all F u D1 D2 D3 hm b 0 (by omega)) hm b).mono (by omega)⟩
abbrev S_rsum : List B → Rs → (B → Rs → Prop) → Prop := fun bs t Q => ∃ m : Nat, bs = [.rd, .d (.int m)] ∧ m ≤ 8 ∧ RdOk m t ∧ ∀ (ns : List Int) (t' : Rs), ns.length = m → (∀ i ∈ ns, -12 ≤ i ∧ i ≤ 12) → Adv m t t' → Q (.d (.tuple (ns.map PyData.int))) t'
theorem ok_rsum {Wo : WO} {f : Addr} {fd : FuncData} {k : Nat} (F : Fun K "_law_random_sum" "_law_random_sum" s__law_random_sum f fd) (u : Bu mg) (D1 : Def P w K Wo mg base k "_law_draw" 2 S_drw) : FnOk P w K mg base CX0 (k + 1) f fd ["_law_reader_here", "_law_many"] (spD K Wo 2 S_rsum) :=
  okD F sc__law_random_sum rfl fun cdv A outer s H E M bs t Q hr hl h => by
    obtain ⟨m, rfl, hm, ro, q⟩ := h
    have nd := sc__law_random_sum.nd
    refine jss_ret (jd_tupc u (JL.toD (jl_comp (own := [("_law_k", 2)]) (g := gName 2) rfl nd (blkOk_by (N := ["_law_reader_here", "_law_many", "_law_k"]) (sc := defScope s__law_random_sum) (by decide +kernel)) wipes1 (fun _ _ _ _ _ => pg_name (i := 2) nd rfl (Or.inl rfl)) (ji_rng1 rfl u.range ?_))))
    repeat walk_at "je"
    refine ⟨by omega, by omega, fun i acc t' => ∃ ns : List Int, acc = ns.map PyData.int ∧ ns.length = i ∧ (∀ j ∈ ns, -12 ≤ j ∧ j ≤ 12) ∧ Adv i t t', ⟨[], rfl, rfl, fun j hj => absurd hj List.not_mem_nil, Adv.refl t⟩, fun i x acc t' ex hI => ?_, fun acc t' hI => ?_⟩
    · obtain ⟨ns, rfl, hn, hb, ha⟩ := hI
      obtain ⟨hi, rfl⟩ := rngD_of ex
      have r1 : RdOk 1 t' := RdOk.adv (n := i) (ro.mono (by omega)) ha
      refine dg_name fun s0 H0 C cl fp => jd_ixL (JL.toD (jl_lst ?_))
      repeat walk_at "je"
      refine ⟨[.int 0, .int 1, .int (-1), .int 2, .int (-2), .int 12, .int (-12)], rfl, (by decide : 7 ≤ 16777216), _, rfl, ?_⟩
      refine jd_call D1 hr (Nat.le_refl _) rfl ?_
      repeat walk_at "je"
      refine fun j t2 hj a2 => ⟨_, rfl, ?_⟩
      obtain ⟨z, hz, ez⟩ := atI_lt (xs := ([0, 1, -1, 2, -2, 12, -12] : List Int).map PyData.int) hj.1 hj.2
      obtain ⟨v, hv, rfl⟩ := List.mem_map.mp hz
      have hv2 : -12 ≤ v ∧ v ≤ 12 := by
        simp only [List.mem_cons, List.not_mem_nil, or_false] at hv
        rcases hv with rfl | rfl | rfl | rfl | rfl | rfl | rfl <;> decide
      refine ⟨j, _, rfl, ez, by rw [List.length_map]; omega, ns ++ [v], by simp, by simp [hn], fun y hy => ?_, ha.trans a2⟩
      rcases List.mem_append.mp hy with hy | hy
      · exact hb y hy
      · rw [List.mem_singleton.mp hy]
        exact hv2
    · obtain ⟨ns, rfl, hn, hb, ha⟩ := hI
      rw [rngD_len] at hn ha
      have e : ((m : Int)).toNat = m := by omega
      exact ⟨_, .inl rfl, q ns t' (by omega) hb (ha.mono (by omega))⟩
end
end K01
end
section
set_option maxRecDepth 100000
set_option maxHeartbeats 4000000
namespace K01
open PySem PySem.Spec PyProof.Rows L2 Dl

local macro_rules | `(tactic| walk_at "nm") => `(tactic| first | refine jd_name 0 rfl ?_ | refine jd_name 1 rfl ?_ | refine jd_name 2 rfl ?_ | refine jd_name 3 rfl ?_ | refine jd_name 4 rfl ?_ | refine jd_name 5 rfl ?_ | refine jd_name 6 rfl ?_ | refine jd_name 7 rfl ?_ | refine jd_name 8 rfl ?_ | refine jd_name 9 rfl ?_ | refine jd_name 10 rfl ?_ | refine jd_name 11 rfl ?_ | refine jd_name 12 rfl ?_ | refine jd_name 13 rfl ?_)
local macro_rules | `(tactic| walk_at "sub") => `(tactic| fail)
local macro_rules | `(tactic| walk_at "call") => `(tactic| first | refine jd_len (by assumption) ?_ | refine jd_intc (by assumption) ?_ | refine jd_tupc (by assumption) ?_)
local macro_rules | `(tactic| walk_at "cmp") => `(tactic| first | refine jd_eq (by assumption) ?_ | refine jd_ne (by assumption) ?_)
local macro_rules | `(tactic| walk_at "cmpT") => `(tactic| first | refine jt_eq (by assumption) ?_ | refine jt_ne (by assumption) ?_)
local macro_rules | `(tactic| walk_at "callT") => `(tactic| refine jt_val ?_)
local macro_rules | `(tactic| walk_at "je") => `(tactic| first
  | with_reducible refine ⟨_, rfl, ?_⟩
  | (refine g_name ?_; walk_at "nm") | refine jd_int ?_ | refine jd_str ?_
  | (refine g_args ?_; refine ja_cons ?_) | refine ja_nil ?_ | refine jd_tup ?_
  | (refine g_call ?_; walk_at "call") | (refine g_sub ?_; walk_at "sub")
  | refine jd_add ?_ | refine jd_sub ?_ | refine jd_mul ?_ | refine jd_fdiv ?_ | refine jd_mod ?_ | refine jd_pow ?_
  | refine jt_lt ?_ | refine jt_le ?_ | refine jt_gt ?_ | refine jt_ge ?_ | refine jt_isN ?_ | refine jt_notN ?_ | refine jt_not ?_ | refine jw_and ?_ | refine jw_or ?_ | refine jw_and1 ?_ | refine jw_or1 ?_
  | (refine g_cmpT ?_; walk_at "cmpT") | (refine g_callT ?_; walk_at "callT")
  | refine jd_lt ?_ | refine jd_le ?_ | refine jd_gt ?_ | refine jd_ge ?_ | refine jd_isN ?_ | refine jd_notN ?_ | (refine g_cmp ?_; walk_at "cmp")
  | refine jd_bl ?_ | refine jd_non ?_
  | refine jd_if ?_ | refine jd_and ?_ | refine jd_or ?_ | refine jd_one ?_ | refine jd_not ?_ | refine jd_neg ?_
  | refine jo_none ?_ | refine jo_some ?_
  | refine jss_nil ?_ | refine jss_ret ?_ | refine jss_if0 ?_ | refine jss_if ?_ | refine jt_bop ?_
  | with_reducible refine And.intro (by assumption) ?_ | refine And.intro (show List.length _ = _ from rfl) ?_ | refine And.intro (Or.inl (by decide)) ?_ | refine And.intro (by decide : _ ≠ _) ?_ | refine And.intro ⟨by decide, by decide⟩ ?_ | refine And.intro ⟨by decide, by decide, by decide⟩ ?_
  | (dsimp only; first | refine jss_nil ?_ | refine jss_ret ?_))
local macro_rules | `(tactic| walk_at "call") => `(tactic| first | refine jd_isi (T := "int") (Ts := "int") rfl rfl (Bu.isi (by assumption)) rfl (Bu.int (by assumption)) boot_int' (by simp) ?_ | refine jd_isi (T := "bool") (Ts := "bool") rfl rfl (Bu.isi (by assumption)) rfl (Bu.bool (by assumption)) Dl.boot_bool (by simp) ?_ | refine jd_isi (T := "str") (Ts := "str") rfl rfl (Bu.isi (by assumption)) rfl (Bu.str (by assumption)) Dl.boot_str (by simp) ?_ | refine jd_isi (T := "tuple") (Ts := "tuple") rfl rfl (Bu.isi (by assumption)) rfl (Bu.tuple (by assumption)) Dl.boot_tuple (by simp) ?_ | refine jd_isi (T := "list") (Ts := "list") rfl rfl (Bu.isi (by assumption)) rfl (Bu.list (by assumption)) Dl.boot_list (by simp) ?_)
local macro_rules | `(tactic| walk_at "je") => `(tactic| refine ja_rd 0 rfl ?_)
local macro_rules | `(tactic| walk_at "call") => `(tactic| refine jd_lenO 5 rfl (Bu.len (by assumption)) (by omega) ?_)
def menuD : List PyData := [.none, .bool true, .int 0, .int (-1), .str "", .str "a", .str "item", .str "=", .tuple [], .list [], .tuple [.str "item", .str "x"], .tuple [.str "=", .int 0, .int 0], .tuple [.int 0], .tuple [.int 1, .int 2]]
theorem menu_ok : ∀ z ∈ menuD, Fk 12 z ∧ sz z ≤ 10 ∧ z.depth ≤ 1 := fun z hz => by
  have h : ∀ z ∈ menuD, (finB z && decide (sz z ≤ 10) && decide (z.depth ≤ 1)) = true := by decide +kernel
  have := h z hz
  simp only [Bool.and_eq_true] at this
  exact ⟨fin_of z this.1.1, of_decide_eq_true this.1.2, of_decide_eq_true this.2⟩
/-- the parts of a tuple or list -/
def seqOf : PyData → Option (List PyData)
  | .tuple xs => some xs
  | .list xs => some xs
  | _ => none
theorem isi_seq (x : PyData) : (isiD "tuple" x || isiD "list" x) = (seqOf x).isSome := by cases x <;> rfl
theorem seq_lenD {x : PyData} {xs : List PyData} (h : seqOf x = some xs) : lenD x = some xs.length := by
  cases x <;> simp only [seqOf, Option.some.injEq, reduceCtorEq] at h <;> (subst h; rfl)
theorem seq_or {x : PyData} {xs : List PyData} (h : seqOf x = some xs) : x = .list xs ∨ x = .tuple xs := by
  cases x <;> simp only [seqOf, Option.some.injEq, reduceCtorEq] at h <;> (subst h; simp)
theorem seq_sz {x : PyData} {xs : List PyData} (h : seqOf x = some xs) : sz x = 1 + szA xs := by
  rcases seq_or h with rfl | rfl <;> rw [sz]
theorem seq_dep {x : PyData} {xs : List PyData} (h : seqOf x = some xs) : x.depth = PyData.depthAll xs + 1 := by
  rcases seq_or h with rfl | rfl <;> simp only [PyData.depth]
theorem seq_fk {x : PyData} {xs : List PyData} {c : Nat} (h : seqOf x = some xs) (q : Fk c x) : FkA c xs := by
  rcases seq_or h with rfl | rfl <;> exact q
theorem seq_len {x : PyData} {xs : List PyData} {m : Nat} (h : seqOf x = some xs) (q : sz x ≤ m) : xs.length < m := by
  rw [seq_sz h] at q
  have := len_szA xs
  omega
theorem ixN_nat {n j : Nat} (h : j < n) : ixN n (j : Int) = some j := by
  unfold ixN
  rw [if_pos (by omega), if_pos (by omega)]
  rfl
theorem szA_set : ∀ (xs : List PyData) (j : Nat) (y : PyData) (h : j < xs.length), szA (xs.set j y) + sz xs[j] = szA xs + sz y
  | x :: xs, 0, y, h => by
    simp only [List.set_cons_zero, szA, List.getElem_cons_zero]
    omega
  | x :: xs, j + 1, y, h => by
    have := szA_set xs j y (by simpa using h)
    simp only [List.set_cons_succ, szA, List.getElem_cons_succ]
    omega
theorem szA_erase : ∀ (xs : List PyData) (j : Nat), szA (xs.eraseIdx j) ≤ szA xs
  | [], _ => by simp [szA]
  | x :: xs, 0 => by
    simp only [List.eraseIdx_cons_zero, szA]
    omega
  | x :: xs, j + 1 => by
    have := szA_erase xs j
    simp only [List.eraseIdx_cons_succ, szA]
    omega
theorem szA_ins (xs : List PyData) (j : Nat) (z : PyData) : szA (xs.take j ++ [z] ++ xs.drop j) = szA xs + sz z := by
  have e : szA xs = szA (xs.take j) + szA (xs.drop j) := by rw [← szA_app, List.take_append_drop]
  rw [szA_app, szA_app, e]
  simp only [szA]
  omega
theorem mem_ins {xs : List PyData} {j : Nat} {z a : PyData} (h : a ∈ xs.take j ++ [z] ++ xs.drop j) : a ∈ xs ∨ a = z := by
  rcases List.mem_append.mp h with h | h
  · rcases List.mem_append.mp h with h | h
    · exact .inl (List.mem_of_mem_take h)
    · exact .inr (List.mem_singleton.mp h)
  · exact .inl (List.mem_of_mem_drop h)
section
variable {P : Program} {w : World} {K : PySem.W.Frag} {mg : Str → Option Value} {base : Heap}
abbrev S_chg (n : Nat) : List B → Rs → (B → Rs → Prop) → Prop := fun bs t Q => ∃ x c, bs = [.rd, .d x, .d (.list menuD)] ∧ (12 ≤ c ∧ c ≤ 10000) ∧ Fk c x ∧ sz x ≤ 100000 ∧ x.depth ≤ n ∧ RdOk (3 * n + 5) t ∧ ∀ y t', Fk (c + 2) y → sz y ≤ 2 * sz x + 20 → y.depth ≤ n + 2 → Adv (3 * n + 5) t t' → Q (.d y) t'
theorem ok_chg {Wo : WO} {f : Addr} {fd : FuncData} {k n : Nat} (F : Fun K "_law_changed" "_law_changed" s__law_changed f fd) (u : Bu mg) (D1 : Def P w K Wo mg base k "_law_draw" 2 S_drw) (Dr : ∀ n', n = n' + 1 → Def P w K Wo mg base k "_law_changed" 3 (S_chg n')) : FnOk P w K mg base CX0 (k + 1) f fd ["_law_reader_here", "_law_thing", "_law_menu"] (spD K Wo 3 (S_chg n)) :=
  okD F sc__law_changed rfl fun cdv A outer s H E M bs t Q hr hl h => by
    obtain ⟨x, c, rfl, ⟨hc1, hc2⟩, hf, hs, hd, ro, q⟩ := h
    have nd := sc__law_changed.nd
    have r1 : RdOk 1 t := ro.mono (by omega)
    refine jss_if0 (jt_imp (P := fun kk t' => Adv 1 t t' ∧ (kk = true → ∃ xs, seqOf x = some xs ∧ 0 < xs.length)) ?_ fun kk t1 ⟨a1, hk⟩ => And.intro (fun e => ?_) fun e => ?_)
    · refine jt_bop (jw_and (jt_val (jd_isi2 (Ss := "tuple") (Ts := "list") rfl rfl u.isi rfl u.tuple Dl.boot_tuple (by simp) rfl u.list Dl.boot_list (by simp) ?_)))
      repeat walk_at "je"
      rw [isi_seq]
      refine ⟨fun h1 => ?_, fun h1 => ⟨(Adv.refl t).mono (by decide), fun z => (by cases z)⟩⟩
      obtain ⟨xs, hx⟩ := Option.isSome_iff_exists.mp h1
      have hlen := seq_len hx hs
      refine jw_and ?_
      repeat walk_at "je"
      refine ⟨xs.length, seq_lenD hx, by omega, ?_⟩
      repeat walk_at "je"
      refine ⟨fun h2 => ?_, fun h2 => ⟨(Adv.refl t).mono (by decide), fun z => (by cases z)⟩⟩
      refine jw_and1 (jt_gt (jd_call D1 hr (Nat.le_refl _) rfl ?_))
      repeat walk_at "je"
      refine fun i t1 hi a1 => ⟨_, rfl, _, rfl, ?_⟩
      repeat walk_at "je"
      exact fun _ => ⟨xs, hx, by have := of_decide_eq_true h2; omega⟩
    · obtain ⟨xs, hx, hx0⟩ := hk e
      have hlen := seq_len hx hs
      have hsz := seq_sz hx
      have hdp := seq_dep hx
      have hfk := seq_fk hx hf
      obtain ⟨n', rfl⟩ : ∃ n', n = n' + 1 := ⟨n - 1, by omega⟩
      have ro1 : RdOk (3 * n' + 7) t1 := RdOk.adv (n := 1) (by rw [show 1 + (3 * n' + 7) = 3 * (n' + 1) + 5 by omega]; exact ro) a1
      have r2 : RdOk 1 t1 := ro1.mono (by omega)
      refine jss_cons (js_par 3 4 rfl nd (by decide) rfl (ja_cons (jd_call D1 hr (Nat.le_refl _) rfl ?_)))
      repeat walk_at "je"
      refine ⟨xs.length, seq_lenD hx, by omega, ?_⟩
      repeat walk_at "je"
      refine ⟨⟨by omega, by omega⟩, r2, fun at' t2 hat a2 => ⟨_, rfl, ?_⟩⟩
      have ro2 : RdOk (3 * n' + 6) t2 := RdOk.adv (n := 1) (by rw [show 1 + (3 * n' + 6) = 3 * n' + 7 by omega]; exact ro1) a2
      have r3 : RdOk 1 t2 := ro2.mono (by omega)
      refine ja_cons (jd_call D1 hr (Nat.le_refl _) rfl ?_)
      repeat walk_at "je"
      refine fun way t3 hway a3 => ⟨_, rfl, ?_⟩
      repeat walk_at "je"
      have ro3 : RdOk (3 * n' + 5) t3 := RdOk.adv (n := 1) (by rw [show 1 + (3 * n' + 5) = 3 * n' + 6 by omega]; exact ro2) a3
      have r4 : RdOk 1 t3 := ro3.mono (by omega)
      have a123 : Adv 3 t t3 := (a1.trans a2).trans a3
      refine ⟨_, _, rfl, ?_⟩
      dsimp only
      refine jss_setL 5 nd (jl_listc u ?_)
      repeat walk_at "je"
      refine ⟨xs, seq_or hx, ?_⟩
      obtain ⟨at1, hat1⟩ : ∃ j : Nat, at' = (j : Int) := ⟨at'.toNat, (Int.toNat_of_nonneg hat.1).symm⟩
      subst hat1
      have hat2 : at1 < xs.length := by omega
      have hel : xs[at1]? = some xs[at1] := List.getElem?_eq_getElem hat2
      have hmem : xs[at1] ∈ xs := List.getElem_mem hat2
      refine jss_cut (fun ρ' t' => ∃ ys, ρ' = [.rd, .d x, .d (.list menuD), .d (.int (at1 : Int)), .d (.int way), .own ys] ∧ FkA (c + 2) ys ∧ 1 + szA ys ≤ 2 * sz x + 20 ∧ PyData.depthAll ys ≤ n' + 2 ∧ Adv (3 * n' + 5) t3 t') ?_ fun ρ' t' hP => ?_
      · have ins : ∀ z t4, Fk (c + 2) z → sz z ≤ szA xs + 10 → z.depth ≤ n' + 2 → Adv (3 * n' + 5) t3 t4 → ∃ ys, [B.rd, B.d x, B.d (PyData.list menuD), B.d (PyData.int ↑at1), B.d (PyData.int way), B.own (xs.take at1 ++ [z] ++ xs.drop at1)] = [B.rd, B.d x, B.d (PyData.list menuD), B.d (PyData.int ↑at1), B.d (PyData.int way), B.own ys] ∧ FkA (c + 2) ys ∧ 1 + szA ys ≤ 2 * sz x + 20 ∧ PyData.depthAll ys ≤ n' + 2 ∧ Adv (3 * n' + 5) t3 t4 := fun z t4 f1 f2 f3 a4 => by
          refine ⟨_, rfl, FkA_iff.mpr fun a ha => ?_, ?_, depA_le fun a ha => ?_, a4⟩
          · rcases mem_ins ha with ha | rfl
            · exact Fk.mono (by omega) a (FkA_iff.mp hfk a ha)
            · exact f1
          · rw [szA_ins]
            omega
          · rcases mem_ins ha with ha | rfl
            · have := dep_mem ha
              omega
            · exact f3
        refine js_if ?_
        repeat walk_at "je"
        refine ⟨fun h4 => ?_, fun h4 => ?_⟩
        · refine jss_one (js_setIx 5 rfl (jd_call (Dr n' rfl) hr (Nat.le_refl _) rfl ?_))
          repeat walk_at "je"
          refine jd_ixO 5 rfl ?_
          repeat walk_at "je"
          refine ⟨_, xs[at1], rfl, atI_nat hel, ?_⟩
          repeat walk_at "je"
          have r5 : RdOk (3 * n' + 5) t3 := ro3
          have hdm := dep_mem hmem
          have hsm := szA_mem hmem
          refine ⟨xs[at1], c, rfl, ⟨hc1, hc2⟩, FkA_iff.mp hfk _ hmem, by omega, by omega, r5, fun y t4 fy sy dy a4 => ⟨_, rfl, ?_⟩⟩
          repeat walk_at "je"
          refine ⟨_, at1, rfl, ixN_nat hat2, xs.set at1 y, rfl, FkA_iff.mpr fun a ha => ?_, ?_, depA_le fun a ha => ?_, a4⟩
          · rcases List.mem_or_eq_of_mem_set ha with ha | rfl
            · exact Fk.mono (by omega) a (FkA_iff.mp hfk a ha)
            · exact fy
          · have := szA_set xs at1 y hat2
            omega
          · rcases List.mem_or_eq_of_mem_set ha with ha | rfl
            · have := dep_mem ha
              omega
            · omega
        · refine jss_one (js_if (jt_eq hr ?_))
          repeat walk_at "je"
          refine ⟨shInt _, shInt _, ?_⟩
          rw [eqvInt]
          refine ⟨fun h5 => ?_, fun h5 => ?_⟩
          · refine jss_one (js_popAt 5 rfl ?_)
            repeat walk_at "je"
            refine ⟨_, at1, xs[at1], rfl, by omega, by omega, ?_, hel, ?_⟩
            · exact (ixN_seq (ixN_nat hat2)).1
            · refine ⟨xs.eraseIdx at1, rfl, FkA_iff.mpr fun a ha => ?_, ?_, depA_le fun a ha => ?_, (Adv.refl t3).mono (by omega)⟩
              · exact Fk.mono (by omega) a (FkA_iff.mp hfk a (List.mem_of_mem_eraseIdx ha))
              · have := szA_erase xs at1
                omega
              · have := dep_mem (List.mem_of_mem_eraseIdx ha)
                omega
          · refine jss_one (js_if (jt_eq hr ?_))
            repeat walk_at "je"
            refine ⟨shInt _, shInt _, ?_⟩
            rw [eqvInt]
            refine ⟨fun h6 => ?_, fun h6 => ?_⟩
            · refine jss_one (js_insert 5 rfl ?_)
              repeat walk_at "je"
              refine ⟨by omega, jd_ixO 5 rfl (jd_call D1 hr (Nat.le_refl _) rfl ?_)⟩
              repeat walk_at "je"
              refine ⟨⟨by omega, by omega⟩, r4, fun j t4 hj a4 => ⟨_, rfl, ?_⟩⟩
              obtain ⟨z, hz, ez⟩ := atI_lt (xs := xs) hj.1 hj.2
              exact ⟨j, z, rfl, ez, by omega, ins z t4 (Fk.mono (by omega) z (FkA_iff.mp hfk z hz)) (by have := szA_mem hz; omega) (by have := dep_mem hz; omega) (a4.mono (by omega))⟩
            · refine jss_one (js_insert 5 rfl ?_)
              repeat walk_at "je"
              refine ⟨by omega, jd_ixL ?_⟩
              repeat walk_at "je"
              refine jd_call D1 hr (Nat.le_refl _) rfl ?_
              repeat walk_at "je"
              refine ⟨by decide, ?_⟩
              repeat walk_at "je"
              refine fun j t4 hj a4 => ⟨_, rfl, ?_⟩
              obtain ⟨z, hz, ez⟩ := atI_lt (xs := menuD) hj.1 hj.2
              obtain ⟨z1, z2, z3⟩ := menu_ok z hz
              exact ⟨j, z, rfl, ez, by omega, ins z t4 (Fk.mono (by omega) z z1) (by omega) (by omega) (a4.mono (by omega))⟩
      · obtain ⟨ys, rfl, hy1, hy2, hy3, ay⟩ := hP
        refine jss_freeze 5 rfl (jss_ret (jd_if ?_))
        repeat walk_at "je"
        have fin : ∀ y, y = .list ys ∨ y = .tuple ys → Q (.d y) t' := fun y hy => by
          refine q y t' ?_ ?_ ?_ ((a123.trans ay).mono (by omega))
          · rcases hy with rfl | rfl <;> exact hy1
          · rcases hy with rfl | rfl <;> (rw [sz]; exact hy2)
          · rcases hy with rfl | rfl <;> (simp only [PyData.depth]; omega)
        refine ⟨fun _ => ?_, fun _ => ?_⟩
        · repeat walk_at "je"
          exact fin _ (.inl rfl)
        · refine jd_tupc u ?_
          repeat walk_at "je"
          exact ⟨ys, .inl rfl, fin _ (.inr rfl)⟩
    · have ro1 : RdOk (3 * n + 4) t1 := RdOk.adv (n := 1) (by rw [show 1 + (3 * n + 4) = 3 * n + 5 by omega]; exact ro) a1
      have r2 : RdOk 1 t1 := ro1.mono (by omega)
      refine jss_set 4 nd (jd_call D1 hr (Nat.le_refl _) rfl ?_)
      repeat walk_at "je"
      refine fun way t2 hway a2 => ⟨_, rfl, ?_⟩
      have ro2 : RdOk (3 * n + 3) t2 := RdOk.adv (n := 1) (by rw [show 1 + (3 * n + 3) = 3 * n + 4 by omega]; exact ro1) a2
      have r3 : RdOk 1 t2 := ro2.mono (by omega)
      have a12 : Adv 2 t t2 := a1.trans a2
      have hs1 := sz_pos x
      refine jss_if0 (jt_imp (P := fun kk t' => t' = t2 ∧ (kk = true → ∃ xs, seqOf x = some xs)) ?_ fun kk t' ⟨et, hk⟩ => And.intro (fun e => ?_) fun e => ?_)
      · refine jt_bop (jw_and (jt_eq hr ?_))
        repeat walk_at "je"
        refine ⟨shInt _, shInt _, fun h1 => ?_, fun h1 => ⟨rfl, fun z => (by cases z)⟩⟩
        refine jw_and1 (jt_val (jd_isi2 (Ss := "tuple") (Ts := "list") rfl rfl u.isi rfl u.tuple Dl.boot_tuple (by simp) rfl u.list Dl.boot_list (by simp) ?_))
        repeat walk_at "je"
        rw [isi_seq]
        exact ⟨rfl, fun h2 => Option.isSome_iff_exists.mp h2⟩
      · subst et
        obtain ⟨xs, hx⟩ := hk e
        have hsz := seq_sz hx
        have hdp := seq_dep hx
        have hfk := seq_fk hx hf
        have fin : ∀ y, y = .list xs ∨ y = .tuple xs → Q (.d y) t' := fun y hy => by
          refine q y t' ?_ ?_ ?_ (a12.mono (by omega))
          · rcases hy with rfl | rfl <;> exact FkA.mono (by omega) xs hfk
          · rcases hy with rfl | rfl <;> (rw [sz]; omega)
          · rcases hy with rfl | rfl <;> (simp only [PyData.depth]; omega)
        refine jss_ret (jd_if ?_)
        repeat walk_at "je"
        refine ⟨fun _ => JL.toD (jl_listc u ?_), fun _ => jd_tupc u ?_⟩
        · repeat walk_at "je"
          exact ⟨xs, seq_or hx, fin _ (.inl rfl)⟩
        · repeat walk_at "je"
          exact ⟨xs, seq_or hx, fin _ (.inr rfl)⟩
      · subst et
        refine jss_if0 (jt_imp (P := fun kk t'' => t'' = t' ∧ (kk = true → isiD "int" x = true)) ?_ fun kk t'' ⟨et, hk2⟩ => And.intro (fun e => ?_) fun e => ?_)
        · refine jt_bop (jw_and (jt_eq hr ?_))
          repeat walk_at "je"
          refine ⟨shInt _, shInt _, fun h1 => ?_, fun h1 => ⟨rfl, fun z => (by cases z)⟩⟩
          refine jw_and1 (jt_val ?_)
          repeat walk_at "je"
          exact ⟨rfl, fun h2 => h2⟩
        · subst et
          have h2 := hk2 e
          have pm : ∀ z, z ∈ [PyData.int 1, .int (-1)] → ∃ v : Int, z = .int v ∧ v.natAbs ≤ 1 := fun z hz => by
            simp only [List.mem_cons, List.not_mem_nil, or_false] at hz
            rcases hz with rfl | rfl
            · exact ⟨1, rfl, by decide⟩
            · exact ⟨-1, rfl, by decide⟩
          cases x with
          | int i =>
            refine jss_ret (jd_add ?_)
            repeat walk_at "je"
            refine jd_ixL (JL.toD (jl_lst ?_))
            repeat walk_at "je"
            refine ⟨[.int 1, .int (-1)], rfl, (by decide : 2 ≤ 16777216), _, rfl, ?_⟩
            refine jd_call D1 hr (Nat.le_refl _) rfl ?_
            repeat walk_at "je"
            refine fun j t4 hj a4 => ⟨_, rfl, ?_⟩
            obtain ⟨z, hz, ez⟩ := atI_lt (xs := [PyData.int 1, .int (-1)]) hj.1 hj.2
            obtain ⟨v, rfl, hv⟩ := pm z hz
            have hf' : i.natAbs ≤ c := hf
            exact ⟨j, _, rfl, ez, v, rfl, q _ t4 (by show (i + v).natAbs ≤ c + 2; omega) (by simp only [sz]; omega) (by simp only [PyData.depth]; omega) ((a12.trans a4).mono (by omega))⟩
          | bool b =>
            refine jss_ret (jd_addB ?_)
            repeat walk_at "je"
            refine jd_ixL (JL.toD (jl_lst ?_))
            repeat walk_at "je"
            refine ⟨[.int 1, .int (-1)], rfl, (by decide : 2 ≤ 16777216), _, rfl, ?_⟩
            refine jd_call D1 hr (Nat.le_refl _) rfl ?_
            repeat walk_at "je"
            refine fun j t4 hj a4 => ⟨_, rfl, ?_⟩
            obtain ⟨z, hz, ez⟩ := atI_lt (xs := [PyData.int 1, .int (-1)]) hj.1 hj.2
            obtain ⟨v, rfl, hv⟩ := pm z hz
            exact ⟨j, _, rfl, ez, v, rfl, q _ t4 (by show ((if b = true then (1 : Int) else 0) + v).natAbs ≤ c + 2; split <;> omega) (by simp only [sz]; omega) (by simp only [PyData.depth]; omega) ((a12.trans a4).mono (by omega))⟩
          | _ => simp [isiD, tyD] at h2
        · subst et
          refine jss_if0 (jt_imp (P := fun kk t' => t' = t'' ∧ (kk = true → isiD "str" x = true)) ?_ fun kk t' ⟨et, hk3⟩ => And.intro (fun e => ?_) fun e => ?_)
          · refine jt_bop (jw_and (jt_eq hr ?_))
            repeat walk_at "je"
            refine ⟨shInt _, shInt _, fun h1 => ?_, fun h1 => ⟨rfl, fun z => (by cases z)⟩⟩
            refine jw_and1 (jt_val ?_)
            repeat walk_at "je"
            exact ⟨rfl, fun h2 => h2⟩
          · subst et
            have h2 := hk3 e
            cases x with
            | str y =>
              have hy : ∀ ch ∈ y.cps.toList, ch < 128 := hf
              have hys : sz (.str y) = 1 + y.length := by rw [sz]
              refine jss_ret (jd_if (jt_eq hr (jd_call D1 hr (Nat.le_refl _) rfl ?_)))
              repeat walk_at "je"
              refine fun j t4 hj a4 => ⟨_, rfl, ?_⟩
              repeat walk_at "je"
              refine ⟨shInt _, shInt _, ?_⟩
              rw [eqvInt]
              refine ⟨fun _ => ?_, fun _ => ?_⟩
              · refine jd_catS ?_
                repeat walk_at "je"
                have e1 : ("a" : Str).length = 1 := by decide +kernel
                refine ⟨by omega, q _ t4 (fun ch hch => ?_) ?_ (by simp only [PyData.depth]; omega) ((a12.trans a4).mono (by omega))⟩
                · have hch' : ch ∈ y.cps.toList ++ ("a" : Str).cps.toList := by
                    rw [← Array.toList_append]
                    exact hch
                  rcases List.mem_append.mp hch' with h5 | h5
                  · exact hy ch h5
                  · have e2 : ("a" : Str).cps.toList = [97] := by decide +kernel
                    rw [e2, List.mem_singleton] at h5
                    omega
                · rw [sz, len_app, hys, e1]
                  omega
              · refine jd_slS ?_
                repeat walk_at "je"
                have hcut : (cutS y (some 1) none).cps.toList = ((y.cps.toList.drop (HT.sIx y.length 0 (some 1))).take (HT.sIx y.length y.length none - HT.sIx y.length 0 (some 1))) := rfl
                refine ⟨by omega, q _ t4 (fun ch hch => ?_) ?_ (by simp only [PyData.depth]; omega) ((a12.trans a4).mono (by omega))⟩
                · rw [hcut] at hch
                  exact hy ch (List.mem_of_mem_drop (List.mem_of_mem_take hch))
                · have hl5 : (cutS y (some 1) none).length ≤ y.length := by
                    have e5 : (cutS y (some 1) none).length = (cutS y (some 1) none).cps.toList.length := by simp [Str.length]
                    have e6 : y.length = y.cps.toList.length := by simp [Str.length]
                    rw [e5, hcut, List.length_take, List.length_drop]
                    omega
                  rw [sz, hys]
                  omega
            | _ => simp [isiD, tyD] at h2
          · subst et
            refine jss_ret (jd_ixL ?_)
            repeat walk_at "je"
            refine jd_call D1 hr (Nat.le_refl _) rfl ?_
            repeat walk_at "je"
            refine ⟨by decide, ?_⟩
            repeat walk_at "je"
            refine fun j t4 hj a4 => ⟨_, rfl, ?_⟩
            obtain ⟨z, hz, ez⟩ := atI_lt (xs := menuD) hj.1 hj.2
            obtain ⟨z1, z2, z3⟩ := menu_ok z hz
            exact ⟨j, z, rfl, ez, q z t4 (Fk.mono (by omega) z z1) (by omega) (by omega) ((a12.trans a4).mono (by omega))⟩
theorem ok_chg_all {Wo : WO} {f : Addr} {fd : FuncData} {m : Nat} (F : Fun K "_law_changed" "_law_changed" s__law_changed f fd) (u : Bu mg) (D1 : Def P w K Wo mg base m "_law_draw" 2 S_drw) (hm : mg "_law_changed" = some (.ref f)) (b : Binds K fd ["_law_reader_here", "_law_thing", "_law_menu"] []) :
    ∀ n, FnOk P w K mg base CX0 (m + n + 1) f fd ["_law_reader_here", "_law_thing", "_law_menu"] (spD K Wo 3 (S_chg n))
  | 0 => ok_chg F u D1 fun n' e => by cases e
  | n + 1 => ok_chg F u (D1.mono (by omega)) fun n' e => by
    obtain rfl : n = n' := by omega
    exact Dl.Fun.def_ F (ok_chg_all F u D1 hm b n) hm b
end
end K01
end
section
set_option maxRecDepth 100000
set_option maxHeartbeats 4000000
namespace K01
open PySem PySem.Spec PyProof.Rows L2 Dl

local macro_rules | `(tactic| walk_at "nm") => `(tactic| first | refine jd_name 0 rfl ?_ | refine jd_name 1 rfl ?_ | refine jd_name 2 rfl ?_ | refine jd_name 3 rfl ?_ | refine jd_name 4 rfl ?_ | refine jd_name 5 rfl ?_ | refine jd_name 6 rfl ?_ | refine jd_name 7 rfl ?_ | refine jd_name 8 rfl ?_ | refine jd_name 9 rfl ?_ | refine jd_name 10 rfl ?_ | refine jd_name 11 rfl ?_ | refine jd_name 12 rfl ?_ | refine jd_name 13 rfl ?_)
local macro_rules | `(tactic| walk_at "sub") => `(tactic| fail)
local macro_rules | `(tactic| walk_at "call") => `(tactic| first | refine jd_len (by assumption) ?_ | refine jd_intc (by assumption) ?_ | refine jd_tupc (by assumption) ?_)
local macro_rules | `(tactic| walk_at "cmp") => `(tactic| first | refine jd_eq (by assumption) ?_ | refine jd_ne (by assumption) ?_)
local macro_rules | `(tactic| walk_at "cmpT") => `(tactic| first | refine jt_eq (by assumption) ?_ | refine jt_ne (by assumption) ?_)
local macro_rules | `(tactic| walk_at "callT") => `(tactic| refine jt_val ?_)
local macro_rules | `(tactic| walk_at "je") => `(tactic| first
  | with_reducible refine ⟨_, rfl, ?_⟩
  | (refine g_name ?_; walk_at "nm") | refine jd_int ?_ | refine jd_str ?_
  | (refine g_args ?_; refine ja_cons ?_) | refine ja_nil ?_ | refine jd_tup ?_
  | (refine g_call ?_; walk_at "call") | (refine g_sub ?_; walk_at "sub")
  | refine jd_add ?_ | refine jd_sub ?_ | refine jd_mul ?_ | refine jd_fdiv ?_ | refine jd_mod ?_ | refine jd_pow ?_
  | refine jt_lt ?_ | refine jt_le ?_ | refine jt_gt ?_ | refine jt_ge ?_ | refine jt_isN ?_ | refine jt_notN ?_ | refine jt_not ?_ | refine jw_and ?_ | refine jw_or ?_ | refine jw_and1 ?_ | refine jw_or1 ?_
  | (refine g_cmpT ?_; walk_at "cmpT") | (refine g_callT ?_; walk_at "callT")
  | refine jd_lt ?_ | refine jd_le ?_ | refine jd_gt ?_ | refine jd_ge ?_ | refine jd_isN ?_ | refine jd_notN ?_ | (refine g_cmp ?_; walk_at "cmp")
  | refine jd_bl ?_ | refine jd_non ?_
  | refine jd_if ?_ | refine jd_and ?_ | refine jd_or ?_ | refine jd_one ?_ | refine jd_not ?_ | refine jd_neg ?_
  | refine jo_none ?_ | refine jo_some ?_
  | refine jss_nil ?_ | refine jss_ret ?_ | refine jss_if0 ?_ | refine jss_if ?_ | refine jt_bop ?_
  | with_reducible refine And.intro (by assumption) ?_ | refine And.intro (show List.length _ = _ from rfl) ?_ | refine And.intro (Or.inl (by decide)) ?_ | refine And.intro (by decide : _ ≠ _) ?_ | refine And.intro ⟨by decide, by decide⟩ ?_ | refine And.intro ⟨by decide, by decide, by decide⟩ ?_
  | (dsimp only; first | refine jss_nil ?_ | refine jss_ret ?_))
local macro_rules | `(tactic| walk_at "call") => `(tactic| first | refine jd_isi (T := "int") (Ts := "int") rfl rfl (Bu.isi (by assumption)) rfl (Bu.int (by assumption)) boot_int' (by simp) ?_ | refine jd_isi (T := "bool") (Ts := "bool") rfl rfl (Bu.isi (by assumption)) rfl (Bu.bool (by assumption)) Dl.boot_bool (by simp) ?_ | refine jd_isi (T := "str") (Ts := "str") rfl rfl (Bu.isi (by assumption)) rfl (Bu.str (by assumption)) Dl.boot_str (by simp) ?_ | refine jd_isi (T := "tuple") (Ts := "tuple") rfl rfl (Bu.isi (by assumption)) rfl (Bu.tuple (by assumption)) Dl.boot_tuple (by simp) ?_ | refine jd_isi (T := "list") (Ts := "list") rfl rfl (Bu.isi (by assumption)) rfl (Bu.list (by assumption)) Dl.boot_list (by simp) ?_)
mutual
def fkB (c : Nat) : PyData → Bool
  | .none => true
  | .bool _ => true
  | .int i => decide (i.natAbs ≤ c)
  | .str y => y.cps.toList.all fun c => decide (c < 128)
  | .list xs => fkAB c xs
  | .tuple xs => fkAB c xs
  | .dict _ => false
def fkAB (c : Nat) : List PyData → Bool
  | [] => true
  | x :: xs => fkB c x && fkAB c xs
end
mutual
theorem fk_of {c : Nat} : ∀ x : PyData, fkB c x = true → Fk c x
  | .none, _ => trivial
  | .bool _, _ => trivial
  | .int i, h => by
    simp only [fkB] at h
    exact of_decide_eq_true (p := i.natAbs ≤ c) h
  | .str y, h => fun c hc => by
    simp only [fkB] at h
    exact of_decide_eq_true (List.all_eq_true.mp h c hc)
  | .list xs, h => by
    simp only [fkB] at h
    exact fkA_of xs h
  | .tuple xs, h => by
    simp only [fkB] at h
    exact fkA_of xs h
  | .dict _, h => by simp [fkB] at h
theorem fkA_of {c : Nat} : ∀ xs : List PyData, fkAB c xs = true → FkA c xs
  | [], _ => trivial
  | x :: xs, h => by
    simp only [fkAB, Bool.and_eq_true] at h
    exact ⟨fk_of x h.1, fkA_of xs h.2⟩
end
/-- what the law may ask -/
def Gq (x : PyData) : Prop := Fk (10 ^ 59) x ∧ sz x ≤ 5000 ∧ x.depth ≤ 20
def gqB (x : PyData) : Bool := fkB (10 ^ 59) x && decide (sz x ≤ 5000) && decide (x.depth ≤ 20)
theorem gq_of {x : PyData} (h : gqB x = true) : Gq x := by
  simp only [gqB, Bool.and_eq_true] at h
  exact ⟨fk_of x h.1.1, of_decide_eq_true h.1.2, of_decide_eq_true h.2⟩
theorem gq_all {xs : List PyData} (h : xs.all gqB = true) : ∀ x ∈ xs, Gq x := fun x hx => gq_of (List.all_eq_true.mp h x hx)
theorem Gq.gd {x : PyData} (h : Gq x) : Gd x := ⟨Fk.fin (by decide) x h.1, by have := h.2.1; omega, by have := h.2.2; omega⟩
theorem mul_a {n : Nat} (h : 2 ≤ n) : ∃ s : Str, Txt.mul "a" (n : Int) = s ∧ s.length = n ∧ ∀ c ∈ s.cps.toList, c < 128 := by
  have e : (Txt.mul "a" (n : Int)).cps.toList = List.replicate n 97 := by
    have h1 : ("a" : Str) = ⟨#[97]⟩ := by decide +kernel
    rw [h1, mul_one_list]
    rfl
  refine ⟨_, rfl, ?_, fun c hc => ?_⟩
  · have e2 : (Txt.mul "a" (n : Int)).length = (Txt.mul "a" (n : Int)).cps.toList.length := by simp [Str.length]
    rw [e2, e, List.length_replicate]
  · rw [e] at hc
    have := (List.mem_replicate.mp hc).2
    omega
section
variable {X : Cx} {Wo : WO} {M : Md X.K Wo} {ρ : List B} {t : Rs} {P : PyData → Rs → Prop} {pos p1 p2 : Pos} {j1 j2 : Nat}
theorem jd_a3000 (h : ∀ s : Str, s.length = 3000 → (∀ c ∈ s.cps.toList, c < 128) → P (.str s) t) : JD M (.BinOp (.Constant (.str (Str.ofString "a")) j1 p1) .Mult (.Constant (.int 3000) j2 p2) pos) ρ t P := by
  refine jd_mulS (jd_str ⟨_, rfl, jd_int ⟨_, rfl, ?_, ?_⟩⟩)
  · unfold MulOk
    refine ⟨by decide, fun _ _ => by decide +kernel, fun _ _ => ?_⟩
    show decide (_ > sizeLine) = false
    rw [sizeLine_eq]
    decide +kernel
  · obtain ⟨s, e, h1, h2⟩ := mul_a (n := 3000) (by decide)
    have e' : Txt.mul (Str.ofString "a") 3000 = s := e
    rw [e']
    exact h s h1 h2
end
local macro_rules | `(tactic| walk_at "je") => `(tactic| first | refine JL.toD (jl_lst ?_) | refine ds_cons ?_ | refine ds_nil ?_ | refine jd_a3000 ?_ | refine jd_catT (jd_name 2 rfl ⟨_, rfl, ?_⟩) | refine jd_revT ?_ | refine And.intro (show List.length _ ≤ 16777216 from Nat.le_of_ble_eq_true rfl) ?_ | refine And.intro (show List.length _ + List.length _ ≤ 16777216 from Nat.le_of_ble_eq_true rfl) ?_)
section
variable {P : Program} {w : World} {K : PySem.W.Frag} {mg : Str → Option Value} {base : Heap}
abbrev S_plain : List B → Rs → (B → Rs → Prop) → Prop := fun bs t Q => bs = [] ∧ ∀ xs : List PyData, xs.length ≤ 500 → (∀ x ∈ xs, Gq x) → Q (.own xs) t
theorem ok_plain {Wo : WO} {f : Addr} {fd : FuncData} {k : Nat} (F : Fun K "_law_plain_values" "_law_plain_values" s__law_plain_values f fd) (u : Bu mg) : FnOk P w K mg base CX0 (k + 1) f fd [] (spD K Wo 0 S_plain) :=
  okD F sc__law_plain_values rfl fun cdv A outer s H E M bs t Q hr hl h => by
    obtain ⟨rfl, q⟩ := h
    have nd := sc__law_plain_values.nd
    refine jss_set 0 nd (jd_pow ?_)
    repeat walk_at "je"
    refine jss_set 1 nd (JL.toD (jl_lst ?_))
    repeat walk_at "je"
    refine jss_set 1 nd (JL.toD (jl_cat ?_))
    repeat walk_at "je"
    refine jss_set 1 nd (JL.toD (jl_cat ?_))
    repeat walk_at "je"
    refine fun s hs1 hs2 => ?_
    repeat walk_at "je"
    refine jss_set 1 nd (JL.toD (jl_cat ?_))
    repeat walk_at "je"
    refine jss_set 1 nd (JL.toD (jl_cat ?_))
    repeat walk_at "je"
    refine jss_set 1 nd (JL.toD (jl_cat ?_))
    repeat walk_at "je"
    refine jss_cut (fun ρ' t' => ∃ far fs, ρ' = [.d (.int far), .d (.list fs), .un, .un] ∧ fs.length ≤ 100 ∧ (∀ x ∈ fs, Gq x) ∧ t' = t) (js_set 1 nd (JL.toD (jl_cat ?_))) fun ρ' t' hP => ?_
    · repeat walk_at "je"
      refine ⟨_, _, rfl, Nat.le_of_ble_eq_true rfl, fun x hx => ?_, rfl⟩
      simp only [List.mem_append] at hx
      rcases hx with (((((hx | hx) | hx) | hx) | hx) | hx) | hx
      · exact gq_all (by decide +kernel) x hx
      · exact gq_all (by decide +kernel) x hx
      · simp only [List.mem_cons, List.not_mem_nil, or_false] at hx
        rcases hx with rfl | rfl | rfl | rfl | rfl | rfl | rfl | rfl | rfl
        · exact gq_of (by decide +kernel)
        · exact ⟨hs2, by rw [sz]; omega, by simp only [PyData.depth]; omega⟩
        all_goals exact gq_of (by decide +kernel)
      · exact gq_all (by decide +kernel) x hx
      · exact gq_all (by decide +kernel) x hx
      · exact gq_all (by decide +kernel) x hx
      · exact gq_all (by decide +kernel) x hx
    · obtain ⟨far, fs, rfl, hlen, hall, rfl⟩ := hP
      refine jss_set 2 nd (jd_tupc u (JL.toD (jl_map (own := [("_law_k", 3)]) (g := gName 3) (fun x => match x with | .int j => .tuple [.int j, .int (-j)] | _ => .none) rfl nd (blkOk_by (N := ["_law_far", "_law_found", "_law_wide", "_law_k"]) (sc := defScope s__law_plain_values) (by decide +kernel)) wipes1 (fun _ _ _ _ _ => pg_name (i := 3) nd rfl (Or.inl rfl)) (ji_rng1 rfl u.range ?_))))
      repeat walk_at "je"
      refine ⟨by decide, by decide, ⟨by rw [rngD_len]; decide, fun x hx => ?_⟩, _, .inl rfl, ?_⟩
      · obtain ⟨i, hi, rfl⟩ := List.mem_map.mp hx
        refine dg_name fun s0 H0 C cl fp => ?_
        repeat walk_at "je"
        exact ⟨rfl, rfl⟩
      · refine jss_retL (jl_cat ?_)
        repeat walk_at "je"
        refine jd_slT ?_
        repeat walk_at "je"
        refine ⟨by simp only [List.length_cons, List.length_nil]; omega, q _ (by rw [List.length_append]; simp only [List.length_cons, List.length_nil]; omega) fun x hx => ?_⟩
        rcases List.mem_append.mp hx with hx | hx
        · exact hall x hx
        · exact gq_all (by decide +kernel) x hx
end
end K01
end
section
set_option maxRecDepth 100000
set_option maxHeartbeats 4000000
namespace K01
open PySem PySem.Spec PyProof.Rows L2 Dl

local macro_rules | `(tactic| walk_at "nm") => `(tactic| first | refine jd_name 0 rfl ?_ | refine jd_name 1 rfl ?_ | refine jd_name 2 rfl ?_ | refine jd_name 3 rfl ?_ | refine jd_name 4 rfl ?_ | refine jd_name 5 rfl ?_ | refine jd_name 6 rfl ?_ | refine jd_name 7 rfl ?_ | refine jd_name 8 rfl ?_ | refine jd_name 9 rfl ?_ | refine jd_name 10 rfl ?_ | refine jd_name 11 rfl ?_ | refine jd_name 12 rfl ?_ | refine jd_name 13 rfl ?_)
local macro_rules | `(tactic| walk_at "sub") => `(tactic| fail)
local macro_rules | `(tactic| walk_at "call") => `(tactic| first | refine jd_len (by assumption) ?_ | refine jd_intc (by assumption) ?_ | refine jd_tupc (by assumption) ?_)
local macro_rules | `(tactic| walk_at "cmp") => `(tactic| first | refine jd_eq (by assumption) ?_ | refine jd_ne (by assumption) ?_)
local macro_rules | `(tactic| walk_at "cmpT") => `(tactic| first | refine jt_eq (by assumption) ?_ | refine jt_ne (by assumption) ?_)
local macro_rules | `(tactic| walk_at "callT") => `(tactic| refine jt_val ?_)
local macro_rules | `(tactic| walk_at "je") => `(tactic| first
  | with_reducible refine ⟨_, rfl, ?_⟩
  | (refine g_name ?_; walk_at "nm") | refine jd_int ?_ | refine jd_str ?_
  | (refine g_args ?_; refine ja_cons ?_) | refine ja_nil ?_ | refine jd_tup ?_
  | (refine g_call ?_; walk_at "call") | (refine g_sub ?_; walk_at "sub")
  | refine jd_add ?_ | refine jd_sub ?_ | refine jd_mul ?_ | refine jd_fdiv ?_ | refine jd_mod ?_ | refine jd_pow ?_
  | refine jt_lt ?_ | refine jt_le ?_ | refine jt_gt ?_ | refine jt_ge ?_ | refine jt_isN ?_ | refine jt_notN ?_ | refine jt_not ?_ | refine jw_and ?_ | refine jw_or ?_ | refine jw_and1 ?_ | refine jw_or1 ?_
  | (refine g_cmpT ?_; walk_at "cmpT") | (refine g_callT ?_; walk_at "callT")
  | refine jd_lt ?_ | refine jd_le ?_ | refine jd_gt ?_ | refine jd_ge ?_ | refine jd_isN ?_ | refine jd_notN ?_ | (refine g_cmp ?_; walk_at "cmp")
  | refine jd_bl ?_ | refine jd_non ?_
  | refine jd_if ?_ | refine jd_and ?_ | refine jd_or ?_ | refine jd_one ?_ | refine jd_not ?_ | refine jd_neg ?_
  | refine jo_none ?_ | refine jo_some ?_
  | refine jss_nil ?_ | refine jss_ret ?_ | refine jss_if0 ?_ | refine jss_if ?_ | refine jt_bop ?_
  | with_reducible refine And.intro (by assumption) ?_ | refine And.intro (show List.length _ = _ from rfl) ?_ | refine And.intro (Or.inl (by decide)) ?_ | refine And.intro (by decide : _ ≠ _) ?_ | refine And.intro ⟨by decide, by decide⟩ ?_ | refine And.intro ⟨by decide, by decide, by decide⟩ ?_
  | (dsimp only; first | refine jss_nil ?_ | refine jss_ret ?_))
local macro_rules | `(tactic| walk_at "call") => `(tactic| first | refine jd_isi (T := "int") (Ts := "int") rfl rfl (Bu.isi (by assumption)) rfl (Bu.int (by assumption)) boot_int' (by simp) ?_ | refine jd_isi (T := "bool") (Ts := "bool") rfl rfl (Bu.isi (by assumption)) rfl (Bu.bool (by assumption)) Dl.boot_bool (by simp) ?_ | refine jd_isi (T := "str") (Ts := "str") rfl rfl (Bu.isi (by assumption)) rfl (Bu.str (by assumption)) Dl.boot_str (by simp) ?_ | refine jd_isi (T := "tuple") (Ts := "tuple") rfl rfl (Bu.isi (by assumption)) rfl (Bu.tuple (by assumption)) Dl.boot_tuple (by simp) ?_ | refine jd_isi (T := "list") (Ts := "list") rfl rfl (Bu.isi (by assumption)) rfl (Bu.list (by assumption)) Dl.boot_list (by simp) ?_)
local macro_rules | `(tactic| walk_at "je") => `(tactic| first | refine JL.toD (jl_lst ?_) | refine ds_cons ?_ | refine ds_nil ?_ | refine And.intro (show List.length _ ≤ 16777216 from Nat.le_of_ble_eq_true rfl) ?_ | refine And.intro (show List.length _ + List.length _ ≤ 16777216 from Nat.le_of_ble_eq_true rfl) ?_)
def aD : PyData := .tuple [.str "item", .str "coins"]
def cD : PyData := .tuple [.str "=", .int 0, .int 0]
def deepN : Nat → PyData
  | 0 => cD
  | n + 1 => .tuple [.str "not", deepN n]
def farN : Nat → PyData
  | 0 => aD
  | n + 1 => .tuple [.str "+", farN n, .int 1]
def signsD : List PyData := [.str "+", .str "-", .str "*", .str "=", .str "<", .str "and", .str "or", .str "/", .str "least", .str "if", .str ">", .str "<="]
theorem signs_ok : ∀ z ∈ signsD, (([PyData.tuple [z, aD, .int 1], PyData.tuple [z, aD], PyData.tuple [z, aD, .int 1, .int 2], PyData.tuple [z, cD, cD]] : List PyData) ++ ([PyData.tuple [z, aD, cD], PyData.tuple [z, cD, .int 1], PyData.tuple [z, .bool true, .int 1], PyData.tuple [z]] : List PyData)).all gqB = true := by decide +kernel
section
variable {P : Program} {w : World} {K : PySem.W.Frag} {mg : Str → Option Value} {base : Heap}
abbrev S_exprs : List B → Rs → (B → Rs → Prop) → Prop := fun bs t Q => bs = [] ∧ ∀ xs : List PyData, xs.length ≤ 500 → (∀ x ∈ xs, Gq x) → Q (.d (.list xs)) t
theorem ok_exprs {Wo : WO} {f : Addr} {fd : FuncData} {k : Nat} (F : Fun K "_law_expressions" "_law_expressions" s__law_expressions f fd) (u : Bu mg) : FnOk P w K mg base CX0 (k + 1) f fd [] (spD K Wo 0 S_exprs) :=
  okD F sc__law_expressions rfl fun cdv A outer s H E M bs t Q hr hl h => by
    obtain ⟨rfl, q⟩ := h
    have nd := sc__law_expressions.nd
    refine jss_cons (js_asg (pg_tup rfl (pgs_cons (pg_name (i := 0) nd rfl (Or.inl rfl)) (pgs_cons (pg_name (i := 1) nd rfl (Or.inl rfl)) pgs_nil))) (jd_tup ?_))
    repeat walk_at "je"
    refine dg_two ?_
    dsimp only
    refine jss_set 2 nd (JL.toD (jl_lst ?_))
    repeat walk_at "je"
    refine jss_set 2 nd (JL.toD (jl_cat ?_))
    repeat walk_at "je"
    refine jss_cut (fun ρ' t' => ∃ fs, ρ' = [.d aD, .d cD, .d (.list fs), .un, .un, .un, .un] ∧ fs.length ≤ 20 ∧ (∀ x ∈ fs, Gq x) ∧ t' = t) (js_set 2 nd (JL.toD (jl_cat ?_))) fun ρ' t' hP => ?_
    · repeat walk_at "je"
      exact ⟨Nat.le_of_ble_eq_true rfl, gq_all (by decide +kernel), rfl⟩
    · obtain ⟨fs0, rfl, hlen0, hall0, rfl⟩ := hP
      refine jss_cut (fun ρ' t'' => ∃ fs b3, ρ' = [.d aD, .d cD, .d (.list fs), b3, .un, .un, .un] ∧ fs.length ≤ 120 ∧ (∀ x ∈ fs, Gq x) ∧ t'' = t') (js_for PassesOwn.never rfl (pg_name (i := 3) nd rfl (Or.inl rfl)) (ji_tup ?_)) fun ρ' t'' hP => ?_
      · repeat walk_at "je"
        refine ⟨fun i ρ2 t2 => ∃ fs b3, ρ2 = [.d aD, .d cD, .d (.list fs), b3, .un, .un, .un] ∧ fs.length ≤ 20 + 8 * i ∧ (∀ x ∈ fs, Gq x) ∧ t2 = t', ⟨fs0, _, rfl, hlen0, hall0, rfl⟩, fun i z ρ2 t2 ez hI => ?_, fun ρ2 t2 hI => ?_⟩
        · obtain ⟨fs, b3, rfl, hlen, hall, rfl⟩ := hI
          have hz : z ∈ signsD := List.mem_of_getElem? ez
          have hi : i < 12 := (List.getElem?_eq_some_iff.mp ez).1
          have ok := gq_all (signs_ok z hz)
          refine dg_name ?_
          refine jss_set 2 nd (JL.toD (jl_cat ?_))
          repeat walk_at "je"
          refine ⟨by simp only [List.length_cons, List.length_nil]; omega, ?_⟩
          refine jss_set 2 nd (JL.toD (jl_cat ?_))
          repeat walk_at "je"
          refine ⟨by simp only [List.length_append, List.length_cons, List.length_nil]; omega, ?_⟩
          repeat walk_at "je"
          refine ⟨_, _, rfl, by simp only [List.length_append, List.length_cons, List.length_nil]; omega, fun x hx => ?_, rfl⟩
          rcases List.mem_append.mp hx with hx | hx
          · rcases List.mem_append.mp hx with hx | hx
            · exact hall x hx
            · exact ok x (List.mem_append_left _ hx)
          · exact ok x (List.mem_append_right _ hx)
        · obtain ⟨fs, b3, rfl, hlen, hall, rfl⟩ := hI
          exact ⟨fs, b3, rfl, by simp only [List.length_cons, List.length_nil] at hlen; omega, hall, rfl⟩
      · obtain ⟨fs, b3, rfl, hlen, hall, rfl⟩ := hP
        refine jss_set 2 nd (JL.toD (jl_cat ?_))
        repeat walk_at "je"
        refine ⟨by simp only [List.length_cons, List.length_nil]; omega, ?_⟩
        refine jss_cut (fun ρ' t' => ∃ fs, ρ' = [.d aD, .d cD, .d (.list fs), b3, .un, .un, .un] ∧ fs.length ≤ 140 ∧ (∀ x ∈ fs, Gq x) ∧ t' = t'') (js_set 2 nd (JL.toD (jl_cat ?_))) fun ρ' t' hP => ?_
        · repeat walk_at "je"
          refine ⟨by simp only [List.length_append, List.length_cons, List.length_nil]; omega, ?_⟩
          refine ⟨_, rfl, by simp only [List.length_append, List.length_cons, List.length_nil]; omega, fun x hx => ?_, rfl⟩
          rcases List.mem_append.mp hx with hx | hx
          · rcases List.mem_append.mp hx with hx | hx
            · exact hall x hx
            · exact gq_all (by decide +kernel) x hx
          · exact gq_all (by decide +kernel) x hx
        · obtain ⟨gs, rfl, hlen2, hall2, rfl⟩ := hP
          refine jss_cons (js_par 4 5 rfl nd (by decide) rfl ?_)
          repeat walk_at "je"
          refine ⟨_, _, rfl, ?_⟩
          dsimp only
          refine jss_cut (fun ρ' t'' => ∃ b6, ρ' = [.d aD, .d cD, .d (.list gs), b3, .d (deepN 10), .d (farN 10), b6] ∧ t'' = t') (js_for PassesOwn.never rfl (pg_name (i := 6) nd rfl (Or.inl rfl)) (ji_rng1 rfl u.range ?_)) fun ρ' t'' hP => ?_
          · repeat walk_at "je"
            refine ⟨by decide, by decide, fun i ρ2 t2 => ∃ b6, ρ2 = [.d aD, .d cD, .d (.list gs), b3, .d (deepN i), .d (farN i), b6] ∧ t2 = t', ⟨_, rfl, rfl⟩, fun i z ρ2 t2 ez hI => ?_, fun ρ2 t2 hI => ?_⟩
            · obtain ⟨b6, rfl, rfl⟩ := hI
              refine dg_name ?_
              refine jss_cons (js_par 4 5 rfl nd (by decide) rfl ?_)
              repeat walk_at "je"
              refine ⟨_, _, rfl, ?_⟩
              dsimp only
              repeat walk_at "je"
              exact rfl
            · obtain ⟨b6, rfl, rfl⟩ := hI
              exact ⟨b6, rfl, rfl⟩
          · obtain ⟨b6, rfl, rfl⟩ := hP
            refine jss_set 2 nd (JL.toD (jl_cat ?_))
            repeat walk_at "je"
            refine ⟨by simp only [List.length_cons, List.length_nil]; omega, ?_⟩
            repeat walk_at "je"
            refine q _ (by simp only [List.length_append, List.length_cons, List.length_nil]; omega) fun x hx => ?_
            rcases List.mem_append.mp hx with hx | hx
            · exact hall2 x hx
            · exact gq_all (by decide +kernel) x hx
end
end K01
end
section
set_option maxRecDepth 100000
set_option maxHeartbeats 4000000
namespace K01
open PySem PySem.Spec PyProof.Rows L2 Dl

local macro_rules | `(tactic| walk_at "nm") => `(tactic| first | refine jd_name 0 rfl ?_ | refine jd_name 1 rfl ?_ | refine jd_name 2 rfl ?_ | refine jd_name 3 rfl ?_ | refine jd_name 4 rfl ?_ | refine jd_name 5 rfl ?_ | refine jd_name 6 rfl ?_ | refine jd_name 7 rfl ?_ | refine jd_name 8 rfl ?_ | refine jd_name 9 rfl ?_ | refine jd_name 10 rfl ?_ | refine jd_name 11 rfl ?_ | refine jd_name 12 rfl ?_ | refine jd_name 13 rfl ?_)
local macro_rules | `(tactic| walk_at "sub") => `(tactic| fail)
local macro_rules | `(tactic| walk_at "call") => `(tactic| first | refine jd_len (by assumption) ?_ | refine jd_intc (by assumption) ?_ | refine jd_tupc (by assumption) ?_)
local macro_rules | `(tactic| walk_at "cmp") => `(tactic| first | refine jd_eq (by assumption) ?_ | refine jd_ne (by assumption) ?_)
local macro_rules | `(tactic| walk_at "cmpT") => `(tactic| first | refine jt_eq (by assumption) ?_ | refine jt_ne (by assumption) ?_)
local macro_rules | `(tactic| walk_at "callT") => `(tactic| refine jt_val ?_)
local macro_rules | `(tactic| walk_at "je") => `(tactic| first
  | with_reducible refine ⟨_, rfl, ?_⟩
  | (refine g_name ?_; walk_at "nm") | refine jd_int ?_ | refine jd_str ?_
  | (refine g_args ?_; refine ja_cons ?_) | refine ja_nil ?_ | refine jd_tup ?_
  | (refine g_call ?_; walk_at "call") | (refine g_sub ?_; walk_at "sub")
  | refine jd_add ?_ | refine jd_sub ?_ | refine jd_mul ?_ | refine jd_fdiv ?_ | refine jd_mod ?_ | refine jd_pow ?_
  | refine jt_lt ?_ | refine jt_le ?_ | refine jt_gt ?_ | refine jt_ge ?_ | refine jt_isN ?_ | refine jt_notN ?_ | refine jt_not ?_ | refine jw_and ?_ | refine jw_or ?_ | refine jw_and1 ?_ | refine jw_or1 ?_
  | (refine g_cmpT ?_; walk_at "cmpT") | (refine g_callT ?_; walk_at "callT")
  | refine jd_lt ?_ | refine jd_le ?_ | refine jd_gt ?_ | refine jd_ge ?_ | refine jd_isN ?_ | refine jd_notN ?_ | (refine g_cmp ?_; walk_at "cmp")
  | refine jd_bl ?_ | refine jd_non ?_
  | refine jd_if ?_ | refine jd_and ?_ | refine jd_or ?_ | refine jd_one ?_ | refine jd_not ?_ | refine jd_neg ?_
  | refine jo_none ?_ | refine jo_some ?_
  | refine jss_nil ?_ | refine jss_ret ?_ | refine jss_if0 ?_ | refine jss_if ?_ | refine jt_bop ?_
  | with_reducible refine And.intro (by assumption) ?_ | refine And.intro (show List.length _ = _ from rfl) ?_ | refine And.intro (Or.inl (by decide)) ?_ | refine And.intro (by decide : _ ≠ _) ?_ | refine And.intro ⟨by decide, by decide⟩ ?_ | refine And.intro ⟨by decide, by decide, by decide⟩ ?_
  | (dsimp only; first | refine jss_nil ?_ | refine jss_ret ?_))
local macro_rules | `(tactic| walk_at "call") => `(tactic| first | refine jd_isi (T := "int") (Ts := "int") rfl rfl (Bu.isi (by assumption)) rfl (Bu.int (by assumption)) boot_int' (by simp) ?_ | refine jd_isi (T := "bool") (Ts := "bool") rfl rfl (Bu.isi (by assumption)) rfl (Bu.bool (by assumption)) Dl.boot_bool (by simp) ?_ | refine jd_isi (T := "str") (Ts := "str") rfl rfl (Bu.isi (by assumption)) rfl (Bu.str (by assumption)) Dl.boot_str (by simp) ?_ | refine jd_isi (T := "tuple") (Ts := "tuple") rfl rfl (Bu.isi (by assumption)) rfl (Bu.tuple (by assumption)) Dl.boot_tuple (by simp) ?_ | refine jd_isi (T := "list") (Ts := "list") rfl rfl (Bu.isi (by assumption)) rfl (Bu.list (by assumption)) Dl.boot_list (by simp) ?_)
local macro_rules | `(tactic| walk_at "je") => `(tactic| first | refine ja_rd 1 rfl ?_ | refine JL.toD (jl_lst ?_) | refine ds_cons ?_ | refine ds_nil ?_ | refine And.intro (show List.length _ ≤ 16777216 from Nat.le_of_ble_eq_true rfl) ?_ | refine And.intro (show List.length _ + List.length _ ≤ 16777216 from Nat.le_of_ble_eq_true rfl) ?_)
/-- the defs of the law's row -/
structure Ds (P : Program) (w : World) (K : PySem.W.Frag) (mg : Str → Option Value) (base : Heap) (k : Nat) : Prop where
  draw : Def P w K W4 mg base k "_law_draw" 2 S_drw
  num : Def P w K W4 mg base k "_law_number" 3 (S_num 2)
  cond : Def P w K W4 mg base k "_law_condition" 3 (S_cond 2)
  rsum : Def P w K W4 mg base k "_law_random_sum" 2 S_rsum
  chg4 : Def P w K W4 mg base k "_law_changed" 3 (S_chg 4)
  chg6 : Def P w K W4 mg base k "_law_changed" 3 (S_chg 6)
  plain : Def P w K W4 mg base k "_law_plain_values" 0 S_plain
  exprs : Def P w K W4 mg base k "_law_expressions" 0 S_exprs
  lint : Def P w K W4 mg base k "_law_is_integer" 1 S_is_integer
  lname : Def P w K W4 mg base k "_law_is_name" 1 S_l_name
  lsum : Def P w K W4 mg base k "_law_is_sum" 2 S_is_sum
  lsums : Def P w K W4 mg base k "_law_are_sums" 2 S_is_sums
  wrong : Def P w K W4 mg base k "_law_wrong" 4 (S_l_wrong 20)
  int : Def P w K W4 mg base k "is_integer" 1 S_is_integer
  number : Def P w K W4 mg base k "is_number" 1 S_is_number
  name : Def P w K W4 mg base k "is_name" 1 S_is_name
  sum : Def P w K W4 mg base k "is_sum" 2 S_is_sum
  sums : Def P w K W4 mg base k "is_sums" 2 S_is_sums
  count : Def P w K W4 mg base k "is_count" 1 (S_is_expr true)
  condition : Def P w K W4 mg base k "is_condition" 1 (S_is_expr false)
local macro_rules | `(tactic| walk_at "call") => `(tactic| first | refine jd_call (Ds.lint (by assumption)) (by assumption) (Nat.le_refl _) rfl ?_ | refine jd_call (Ds.lname (by assumption)) (by assumption) (Nat.le_refl _) rfl ?_ | refine jd_call (Ds.lsum (by assumption)) (by assumption) (Nat.le_refl _) rfl ?_ | refine jd_call (Ds.lsums (by assumption)) (by assumption) (Nat.le_refl _) rfl ?_ | refine jd_call (Ds.int (by assumption)) (by assumption) (Nat.le_refl _) rfl ?_ | refine jd_call (Ds.number (by assumption)) (by assumption) (Nat.le_refl _) rfl ?_ | refine jd_call (Ds.name (by assumption)) (by assumption) (Nat.le_refl _) rfl ?_ | refine jd_call (Ds.sum (by assumption)) (by assumption) (Nat.le_refl _) rfl ?_ | refine jd_call (Ds.sums (by assumption)) (by assumption) (Nat.le_refl _) rfl ?_ | refine jd_call (Ds.count (by assumption)) (by assumption) (Nat.le_refl _) rfl ?_ | refine jd_call (Ds.condition (by assumption)) (by assumption) (Nat.le_refl _) rfl ?_)
local macro_rules | `(tactic| walk_at "je") => `(tactic| with_reducible refine ⟨_, _, rfl, ?_⟩)
local macro_rules | `(tactic| walk_at "je") => `(tactic| refine JL.toD (jl_cat ?_))
local macro_rules | `(tactic| walk_at "cmpT") => `(tactic| refine jt_neS (jd_repr (by assumption) (by assumption) (Bu.repr (by assumption)) ?_))
/-- what the law may ask in its second half -/
theorem Gx.gq {N D : Nat} {x : PyData} (h : Gx N D x) (hn : N ≤ 5000) (hd : D ≤ 20) : Gq x := ⟨Fk.mono (by decide) x h.1, by have := h.2.1; omega, by have := h.2.2; omega⟩
theorem ne_self (y u : Str) (h : y = u) : (!decide (y = u)) = false := by
  rw [decide_eq_true h]
  rfl
theorem bl_ok (bs : List Bool) (h : bs.length ≤ 100) : Fin (.list (bs.map PyData.bool)) ∧ sz (.list (bs.map PyData.bool)) ≤ 55000 ∧ (PyData.list (bs.map PyData.bool)).depth ≤ 60 := by
  refine ⟨FinA_iff.mpr fun x hx => ?_, ?_, ?_⟩
  · obtain ⟨b, hb, rfl⟩ := List.mem_map.mp hx
    trivial
  · have : ∀ bs : List Bool, szA (bs.map PyData.bool) = bs.length := by
      intro bs
      induction bs with
      | nil => rfl
      | cons b r ih =>
        rw [List.map_cons, szA, ih, List.length_cons]
        simp only [sz]
        omega
    rw [sz, this]
    omega
  · simp only [PyData.depth]
    have : PyData.depthAll (bs.map PyData.bool) ≤ 0 := depA_le fun x hx => by
      obtain ⟨b, hb, rfl⟩ := List.mem_map.mp hx
      simp only [PyData.depth]
      omega
    omega
theorem lot_ok {mss : List (List Int)} (h : mss.length < 64) (q : ∀ ns ∈ mss, ns.length = 2 ∧ ∀ v ∈ ns, -12 ≤ v ∧ v ≤ 12) : Gx 400 4 (.tuple (mss.map fun ns => .tuple (ns.map PyData.int))) := by
  have hs : ∀ mss : List (List Int), (∀ ns ∈ mss, ns.length = 2) → szA (mss.map fun ns => .tuple (ns.map PyData.int)) = 3 * mss.length := by
    intro mss
    induction mss with
    | nil => intro _; rfl
    | cons ns r ih =>
      intro h2
      have h3 := h2 ns List.mem_cons_self
      match ns, h3 with
      | [a, b], _ =>
        rw [List.map_cons, szA, ih fun m hm => h2 m (List.mem_cons_of_mem _ hm), List.length_cons]
        simp only [List.map_cons, List.map_nil, sz, szA]
        omega
  refine Gx.tup (N := 0) (D := 0) (FkA_iff.mpr fun x hx => ?_) ?_ ?_
  · obtain ⟨ns, hns, rfl⟩ := List.mem_map.mp hx
    refine FkA_iff.mpr fun y hy => ?_
    obtain ⟨v, hv, rfl⟩ := List.mem_map.mp hy
    have := (q ns hns).2 v hv
    show v.natAbs ≤ 12
    omega
  · rw [hs mss fun ns hns => (q ns hns).1]
    omega
  · have : PyData.depthAll (mss.map fun ns => .tuple (ns.map PyData.int)) ≤ 3 := depA_le fun x hx => by
      obtain ⟨ns, hns, rfl⟩ := List.mem_map.mp hx
      simp only [PyData.depth]
      have : PyData.depthAll (ns.map PyData.int) ≤ 0 := depA_le fun y hy => by
        obtain ⟨v, hv, rfl⟩ := List.mem_map.mp hy
        simp only [PyData.depth]
        omega
      omega
    omega
section
variable {P : Program} {w : World} {K : PySem.W.Frag} {mg : Str → Option Value} {base : Heap}
theorem law_body {k : Nat} (u : Bu mg) (D : Ds P w K mg base k) {f : Addr} (cdv : Value) (A : Around) (outer : List Env) (s : Shared) (H : Hp) (E : XK) (M : Md K W4) (t : Rs) (hr : Room k (Xo P w K mg base NLaw "law" s_law f cdv A outer s H E).A) (hg : (Xo P w K mg base NLaw "law" s_law f cdv A outer s H E).A.guards = some []) (hl : t.ns.length ≤ 63) (hd : t.draws = 0) :
    JSs (X := Xo P w K mg base NLaw "law" s_law f cdv A outer s H E) M ((defBody s_law).drop 1) (.un :: .rd :: List.replicate (NLaw.length - 2) .un) t { nx := fun _ _ => False, rt := fun b _ => b = .d (.bool true) } := by
  have nd := sc_law.nd
  have r0 : RdOk 100000 t := ⟨hl, by omega, by omega⟩
  refine jss_set 2 nd (JL.toD (jl_lst ?_))
  repeat walk_at "je"
  refine jss_cut (fun ρ' t' => ∃ fs, ρ' = .un :: .rd :: .d (.list menuD) :: .d (.list fs) :: List.replicate 10 .un ∧ fs.length ≤ 1000 ∧ (∀ x ∈ fs, Gq x) ∧ t' = t) (js_set 3 nd (JL.toD (jl_cat (JL.toD (jl_call0 D.plain hr (Nat.le_refl _) rfl ?_))))) fun ρ' t' hP => ?_
  · refine ⟨rfl, fun xs hx1 hx2 => ⟨xs, rfl, xs, rfl, jd_call0 D.exprs hr (Nat.le_refl _) rfl ⟨rfl, fun ys hy1 hy2 => ⟨_, rfl, ys, rfl, by omega, xs ++ ys, rfl, by rw [List.length_append]; omega, fun x hx => ?_, rfl⟩⟩⟩⟩
    rcases List.mem_append.mp hx with hx | hx
    · exact hx1 |> fun _ => hx2 x hx
    · exact hy2 x hx
  · obtain ⟨fs0, rfl, hlen0, hall0, rfl⟩ := hP
    refine jss_cut (fun ρ' t'' => ∃ fs b4 b5 b6 b7 b8, ρ' = [.un, .rd, .d (.list menuD), .d (.list fs), b4, b5, b6, b7, b8, .un, .un, .un, .un, .un] ∧ fs.length ≤ 1100 ∧ (∀ x ∈ fs, Gq x) ∧ RdOk 50000 t'') (js_for PassesOwn.never rfl (pg_name (i := 4) nd rfl (Or.inl rfl)) (ji_rng1 rfl u.range ?_)) fun ρ' t'' hP => ?_
    · repeat walk_at "je"
      refine ⟨by decide, by decide, fun i ρ2 t2 => ∃ fs b4 b5 b6 b7 b8, ρ2 = [.un, .rd, .d (.list menuD), .d (.list fs), b4, b5, b6, b7, b8, .un, .un, .un, .un, .un] ∧ fs.length ≤ 1000 + 6 * i ∧ (∀ x ∈ fs, Gq x) ∧ RdOk (100000 - 200 * i) t2, ⟨fs0, _, _, _, _, _, rfl, hlen0, hall0, r0⟩, fun i z ρ2 t2 ez hI => ?_, fun ρ2 t2 hI => ?_⟩
      · obtain ⟨fs, b4, b5, b6, b7, b8, rfl, hlen, hall, r1⟩ := hI
        obtain ⟨hi, rfl⟩ := rngD_of ez
        have hi' : i < 14 := by simpa using hi
        have d2 : dn 2 = 15 := by decide +kernel
        have c2 : cn 2 = 46 := by decide +kernel
        have s2 : sn 2 = 95 := by decide +kernel
        have e2 : en 2 = 325 := by decide +kernel
        refine dg_name ?_
        have rn : RdOk (dn 2) t2 := r1.mono (by omega)
        refine jss_set 5 nd (jd_call D.num hr (Nat.le_refl _) rfl ?_)
        repeat walk_at "je"
        refine ⟨by decide, rn, fun x t3 gx a3 => ⟨_, rfl, ?_⟩⟩
        have r3 : RdOk (100000 - 200 * i - 15) t3 := RdOk.adv (n := dn 2) (r1.mono (by omega)) a3
        refine jss_cut (fun ρ' t4 => ∃ item, ρ' = [.un, .rd, .d (.list menuD), .d (.list fs), .d (.int (0 + (i : Int))), .d item, b6, b7, b8, .un, .un, .un, .un, .un] ∧ Gx 400 4 item ∧ RdOk (100000 - 200 * i - 61) t4) (js_if (jt_eq hr ?_)) fun ρ' t4 hP => ?_
        · repeat walk_at "je"
          refine ⟨shInt _, shInt _, ?_⟩
          rw [eqvInt]
          have rc : RdOk (cn 2) t3 := r3.mono (by omega)
          refine ⟨fun _ => ?_, fun _ => ?_⟩
          · refine jss_set 5 nd (jd_call D.cond hr (Nat.le_refl _) rfl ?_)
            repeat walk_at "je"
            refine ⟨by decide, rc, fun y t4 gy a4 => ⟨_, rfl, ?_⟩⟩
            repeat walk_at "je"
            exact ⟨gy.mono (by omega) (by decide), RdOk.adv (n := cn 2) (r3.mono (by omega)) a4⟩
          · repeat walk_at "je"
            exact ⟨gx.mono (by omega) (by decide), r3.mono (by omega)⟩
        · obtain ⟨item, rfl, gi, r4⟩ := hP
          refine jss_cut (fun ρ' t5 => ∃ lot, ρ' = [.un, .rd, .d (.list menuD), .d (.list fs), .d (.int (0 + (i : Int))), .d item, .d lot, b7, b8, .un, .un, .un, .un, .un] ∧ Gx 400 4 lot ∧ RdOk (100000 - 200 * i - 73) t5) (js_set 6 nd (jd_tupc u (JL.toD (jl_sortedSet rfl hr u.sorted u.set (JL.toD (jl_comp (own := [("_law_k", 13)]) (g := gName 13) rfl nd (blkOk_by (N := NLaw) (sc := defScope s_law) (by decide +kernel)) wipes1 (fun _ _ _ _ _ => pg_name (i := 13) nd rfl (Or.inl rfl)) (ji_rng1 rfl u.range (jd_call D.draw hr (Nat.le_refl _) rfl ?_)))))))) fun ρ' t5 hP => ?_
          · have rd : RdOk 1 t4 := r4.mono (by omega)
            repeat walk_at "je"
            refine fun j t5 hj a5 => ⟨_, rfl, j, rfl, by omega, by omega, fun n acc t6 => ∃ nss : List (List Int), acc = nss.map (fun ns => PyData.tuple (ns.map PyData.int)) ∧ nss.length = n ∧ (∀ ns ∈ nss, ns.length = 2 ∧ ∀ v ∈ ns, -12 ≤ v ∧ v ≤ 12) ∧ Adv (2 * n) t5 t6, ⟨[], rfl, rfl, fun ns hns => absurd hns List.not_mem_nil, Adv.refl _⟩, fun n z acc t6 ez hI => ?_, fun acc t6 hI => ?_⟩
            · obtain ⟨nss, rfl, hn, hall2, a6⟩ := hI
              obtain ⟨hn2, rfl⟩ := rngD_of ez
              have hn3 : n < 6 := by omega
              have r6 : RdOk 2 t6 := RdOk.adv (n := 1 + 2 * n) (r4.mono (by omega)) (a5.trans a6)
              refine dg_name fun s0 H0 C cl fp => jd_call D.rsum hr (Nat.le_refl _) rfl ?_
              repeat walk_at "je"
              refine ⟨by decide, r6, fun ns t7 h1 h2 a7 => ⟨_, rfl, by rw [List.length_map]; omega, nss ++ [ns], by simp, by simp [hn], fun m hm => ?_, a6.trans a7⟩⟩
              rcases List.mem_append.mp hm with hm | hm
              · exact hall2 m hm
              · rw [List.mem_singleton.mp hm]
                exact ⟨h1, h2⟩
            · obtain ⟨nss, rfl, hn, hall2, a6⟩ := hI
              rw [rngD_len] at hn a6
              have hj6 : j.toNat ≤ 5 := by omega
              refine ⟨nss, rfl, by omega, fun ns hns => (hall2 ns hns).1, fun mss hsub hlen2 => ⟨_, .inl rfl, _, rfl, lot_ok hlen2 fun ns hns => hall2 ns (hsub ns hns), RdOk.adv (n := 1 + 2 * j.toNat) (r4.mono (by omega)) (a5.trans a6)⟩⟩
          · obtain ⟨lot, rfl, gl, r5⟩ := hP
            refine jss_one (js_for PassesOwn.never rfl (pg_name (i := 7) nd rfl (Or.inl rfl)) (ji_tup ?_))
            repeat walk_at "je"
            refine ⟨fun j ρ2 t6 => ∃ gs b7 b8, ρ2 = [.un, .rd, .d (.list menuD), .d (.list gs), .d (.int (0 + (i : Int))), .d item, .d lot, b7, b8, .un, .un, .un, .un, .un] ∧ gs.length ≤ 1000 + 6 * i + 3 * j ∧ (∀ x ∈ gs, Gq x) ∧ RdOk (100000 - 200 * i - 73 - 50 * j) t6, ⟨fs, _, _, rfl, hlen, hall, r5⟩, fun j z ρ2 t6 ez hI => ?_, fun ρ2 t6 hI => ?_⟩
            · obtain ⟨gs, b7, b8, rfl, hlen2, hall2, r6⟩ := hI
              have hj : j < 2 := (List.getElem?_eq_some_iff.mp ez).1
              have gz : Gx 400 4 z := by
                have hz := List.mem_of_getElem? ez
                simp only [List.mem_cons, List.not_mem_nil, or_false] at hz
                rcases hz with rfl | rfl
                · exact gi
                · exact gl
              obtain ⟨z1, z2, z3⟩ := gz
              refine dg_name ?_
              refine jss_set 8 nd (jd_call D.chg4 hr (Nat.le_refl _) rfl ?_)
              repeat walk_at "je"
              refine ⟨z, 12, rfl, by decide, z1, by omega, z3, r6.mono (by omega), fun y t7 y1 y2 y3 a7 => ⟨_, rfl, ?_⟩⟩
              have r7 : RdOk 30 t7 := RdOk.adv (n := 17) (r6.mono (by omega)) (a7.mono (by decide))
              refine jss_one (js_set 3 nd (JL.toD (jl_cat ?_)))
              repeat walk_at "je"
              refine jd_call D.chg6 hr (Nat.le_refl _) rfl ?_
              repeat walk_at "je"
              refine ⟨y, 14, rfl, by decide, y1, by omega, y3, r7.mono (by omega), fun v t8 v1 v2 v3 a8 => ⟨_, rfl, ?_⟩⟩
              repeat walk_at "je"
              refine ⟨by simp only [List.length_cons, List.length_nil]; omega, gs ++ [z, y, v], _, _, rfl, by rw [List.length_append]; simp only [List.length_cons, List.length_nil]; omega, fun x hx => ?_, RdOk.adv (n := 40) (r6.mono (by omega)) ((a7.trans a8).mono (by decide))⟩
              rcases List.mem_append.mp hx with hx | hx
              · exact hall2 x hx
              · simp only [List.mem_cons, List.not_mem_nil, or_false] at hx
                rcases hx with rfl | rfl | rfl
                · exact ⟨Fk.mono (by decide) _ z1, by omega, by omega⟩
                · exact ⟨Fk.mono (by decide) _ y1, by omega, by omega⟩
                · exact ⟨Fk.mono (by decide) _ v1, by omega, by omega⟩
            · obtain ⟨gs, b7, b8, rfl, hlen2, hall2, r6⟩ := hI
              refine ⟨gs, _, _, _, _, _, rfl, by simp only [List.length_cons, List.length_nil] at hlen2; omega, hall2, r6.mono (by simp only [List.length_cons, List.length_nil]; omega)⟩
      · obtain ⟨fs, b4, b5, b6, b7, b8, rfl, hlen, hall, r1⟩ := hI
        exact ⟨fs, b4, b5, b6, b7, b8, rfl, by rw [rngD_len] at hlen; have e14 : (14 : Int).toNat = 14 := rfl; omega, hall, r1.mono (by rw [rngD_len]; have e14 : (14 : Int).toNat = 14 := rfl; omega)⟩
    · obtain ⟨fs, b4, b5, b6, b7, b8, rfl, hlen, hall, r1⟩ := hP
      refine jss_cut (fun ρ' t3 => True) (js_for PassesOwn.never rfl (pg_name (i := 5) nd rfl (Or.inl rfl)) (ji_lst ?_)) fun ρ' t3 hP => ?_
      · repeat walk_at "je"
        refine ⟨fun i ρ2 t2 => ∃ b4 b5 b6 b7 b8 b9 b10 b11 b12 b13, ρ2 = [.un, .rd, .d (.list menuD), .d (.list fs), b4, b5, b6, b7, b8, b9, b10, b11, b12, b13] ∧ RdOk (50000 - i) t2, ⟨_, _, _, _, _, _, _, _, _, _, rfl, r1⟩, fun i z ρ2 t2 ez hI => ?_, fun ρ2 t2 hI => trivial⟩
        obtain ⟨b4, b5, b6, b7, b8, b9, b10, b11, b12, b13, rfl, r2⟩ := hI
        have hz := hall z (List.mem_of_getElem? ez)
        have hi : i < fs.length := (List.getElem?_eq_some_iff.mp ez).1
        have gz := hz.gd
        have r3 : RdOk 1 t2 := r2.mono (by omega)
        refine dg_name ?_
        refine jss_cons (js_par 9 10 rfl nd (by decide) rfl (ja_cons (jd_repr hr hg u.repr ?_)))
        repeat walk_at "je"
        have g1 := gz.1
        have g2 := gz.2.1
        have g3 := gz.2.2
        have g4 := hz.2.2
        have sh := gz.short
        refine ⟨g1, by omega, by omega, ?_⟩
        refine ja_cons (jd_call D.draw hr (Nat.le_refl _) rfl ?_)
        repeat walk_at "je"
        refine fun many t3 hm a3 => ⟨_, rfl, ?_⟩
        repeat walk_at "je"
        dsimp only
        refine jss_set 11 nd (JL.toD (jl_lst (ja_cons (jd_call D.lint hr (Nat.le_refl _) rfl (ja_cons (jd_name 5 rfl (ja_nil ⟨rfl, z, rfl, _, rfl, ?_⟩)))))))
        refine ja_cons (jd_imp (P := fun x t' => x = .bool (isNum z) ∧ t' = t3) (jd_and (jd_call D.lint hr (Nat.le_refl _) rfl ?_)) fun x t' ⟨ex, et⟩ => ?_)
        · repeat walk_at "je"
          refine ⟨fun h1 => ?_, fun h1 => ?_⟩
          · cases z <;> first | (simp [isInt] at h1; done) | skip
            repeat walk_at "je"
            exact ⟨rfl, rfl⟩
          · cases z <;> first | (simp [isInt] at h1; done) | exact ⟨rfl, rfl⟩
        · subst ex et
          repeat walk_at "je"
          refine jss_set 11 nd (JL.toD (jl_cat ?_))
          repeat walk_at "je"
          refine jss_setL 11 nd (jl_cat ?_)
          repeat walk_at "je"
          refine jss_cons (js_append 11 rfl (jd_imp (P := fun x t3 => x = .bool (wf true z) ∧ t3 = t') (jd_isN (jd_call D.wrong hr (Nat.le_refl _) rfl ?_)) fun x t3 ⟨ex, et⟩ => ⟨Nat.lt_of_lt_of_le (Nat.lt_succ_self _) (Nat.le_of_ble_eq_true rfl), ?_⟩))
          · repeat walk_at "je"
            refine ⟨true, z, [], rfl, gz, g4, by decide, fun hw => ⟨_, rfl, by rw [hw]; rfl, rfl⟩, fun hw ps' => ⟨_, rfl, by rw [hw]; rfl, rfl⟩⟩
          · subst ex et
            dsimp only
            refine jss_cons (js_append 11 rfl (jd_imp (P := fun x t'' => x = .bool (wf false z) ∧ t'' = t3) (jd_isN (jd_call D.wrong hr (Nat.le_refl _) rfl ?_)) fun x t'' ⟨ex, et⟩ => ⟨Nat.lt_of_lt_of_le (Nat.lt_succ_self _) (Nat.le_of_ble_eq_true rfl), ?_⟩))
            · repeat walk_at "je"
              refine ⟨false, z, [], rfl, gz, g4, by decide, fun hw => ⟨_, rfl, by rw [hw]; rfl, rfl⟩, fun hw ps' => ⟨_, rfl, by rw [hw]; rfl, rfl⟩⟩
            · subst ex et
              dsimp only
              refine jss_freeze 11 rfl (jss_set 12 nd (JL.toD (jl_lst ?_)))
              repeat walk_at "je"
              refine jss_set 12 nd (JL.toD (jl_cat ?_))
              repeat walk_at "je"
              obtain ⟨l1, l2, l3⟩ := bl_ok [isInt z, isNum z, isName z, isSum many z, isSums many z, isSum 2 z, isSums 2 z, wf true z, wf false z] (Nat.le_of_ble_eq_true rfl)
              refine ⟨l1, l2, l3, _, rfl, jd_repr hr hg u.repr (jd_name 11 rfl ⟨l1, l2, l3, _, rfl, fun _ => ?_, fun hz => ?_⟩)⟩
              · refine jw_or1 (jt_neS (jd_repr hr hg u.repr (jd_name 5 rfl ⟨g1, by omega, by omega, _, rfl, jd_name 9 rfl ⟨_, rfl, fun hz => ?_, fun _ => ?_⟩⟩)))
                · rw [ne_self _ _ rfl] at hz
                  cases hz
                · refine jss_nil ?_
                  exact ⟨_, _, _, _, _, _, _, _, _, _, rfl, RdOk.adv (n := 1) (r2.mono (by omega)) a3⟩
              · exact absurd (hz.symm.trans (ne_self _ _ (congrArg PyData.shown (by rfl)))) (by decide)
      · repeat walk_at "je"
        rfl
end
end K01
end
section
set_option maxRecDepth 100000
set_option maxHeartbeats 4000000
namespace K01
open PySem PySem.Spec PyProof.Rows L2 Dl
/-! ### what the top has written -/
theorem all_mk {P : Program} {w : World} {K : PySem.W.Frag} {h : Heap} {mg : Str → Option Value} {fa : Addr} (X : K.In h) (G : h.Ns mainGlobals mg) (hfa : mg "law" = some (.ref fa)) (ga : Ga K w mg) (gc : Gc K w mg)
    {f1 : Addr} {od1 an1 : Option Addr} {sl1 : Array (Option Value)} {oc1 kV1 dc1 pm1 cd1 ct1 : Value} (a1 : PySem.W.nsIn K mainGlobals "is_integer" = some (some (.ref f1))) (l1 : K.lookup f1 = some ⟨oc1, od1, .func (PySem.W.fnOf "is_integer" "is_integer" (defArgs s_is_integer) (defBody s_is_integer) (defScope s_is_integer) .none kV1 dc1 pm1 an1 cd1 ct1), sl1⟩) (c1 : PySem.W.codeIn K cd1 "is_integer" = true) (k1 : PySem.W.keepIn K (.ref f1) = true)
    {f2 : Addr} {od2 an2 : Option Addr} {sl2 : Array (Option Value)} {oc2 kV2 dc2 pm2 cd2 ct2 : Value} (a2 : PySem.W.nsIn K mainGlobals "is_number" = some (some (.ref f2))) (l2 : K.lookup f2 = some ⟨oc2, od2, .func (PySem.W.fnOf "is_number" "is_number" (defArgs s_is_number) (defBody s_is_number) (defScope s_is_number) .none kV2 dc2 pm2 an2 cd2 ct2), sl2⟩) (c2 : PySem.W.codeIn K cd2 "is_number" = true) (k2 : PySem.W.keepIn K (.ref f2) = true)
    {f3 : Addr} {od3 an3 : Option Addr} {sl3 : Array (Option Value)} {oc3 kV3 dc3 pm3 cd3 ct3 : Value} (a3 : PySem.W.nsIn K mainGlobals "is_name" = some (some (.ref f3))) (l3 : K.lookup f3 = some ⟨oc3, od3, .func (PySem.W.fnOf "is_name" "is_name" (defArgs s_is_name) (defBody s_is_name) (defScope s_is_name) .none kV3 dc3 pm3 an3 cd3 ct3), sl3⟩) (c3 : PySem.W.codeIn K cd3 "is_name" = true) (k3 : PySem.W.keepIn K (.ref f3) = true)
    {f4 : Addr} {od4 an4 : Option Addr} {sl4 : Array (Option Value)} {oc4 kV4 dc4 pm4 cd4 ct4 : Value} (a4 : PySem.W.nsIn K mainGlobals "is_integers" = some (some (.ref f4))) (l4 : K.lookup f4 = some ⟨oc4, od4, .func (PySem.W.fnOf "is_integers" "is_integers" (defArgs s_is_integers) (defBody s_is_integers) (defScope s_is_integers) .none kV4 dc4 pm4 an4 cd4 ct4), sl4⟩) (c4 : PySem.W.codeIn K cd4 "is_integers" = true) (k4 : PySem.W.keepIn K (.ref f4) = true)
    {f5 : Addr} {od5 an5 : Option Addr} {sl5 : Array (Option Value)} {oc5 kV5 dc5 pm5 cd5 ct5 : Value} (a5 : PySem.W.nsIn K mainGlobals "is_sum" = some (some (.ref f5))) (l5 : K.lookup f5 = some ⟨oc5, od5, .func (PySem.W.fnOf "is_sum" "is_sum" (defArgs s_is_sum) (defBody s_is_sum) (defScope s_is_sum) .none kV5 dc5 pm5 an5 cd5 ct5), sl5⟩) (c5 : PySem.W.codeIn K cd5 "is_sum" = true) (k5 : PySem.W.keepIn K (.ref f5) = true)
    {f6 : Addr} {od6 an6 : Option Addr} {sl6 : Array (Option Value)} {oc6 kV6 dc6 pm6 cd6 ct6 : Value} (a6 : PySem.W.nsIn K mainGlobals "is_ascending" = some (some (.ref f6))) (l6 : K.lookup f6 = some ⟨oc6, od6, .func (PySem.W.fnOf "is_ascending" "is_ascending" (defArgs s_is_ascending) (defBody s_is_ascending) (defScope s_is_ascending) .none kV6 dc6 pm6 an6 cd6 ct6), sl6⟩) (c6 : PySem.W.codeIn K cd6 "is_ascending" = true) (k6 : PySem.W.keepIn K (.ref f6) = true)
    {f7 : Addr} {od7 an7 : Option Addr} {sl7 : Array (Option Value)} {oc7 kV7 dc7 pm7 cd7 ct7 : Value} (a7 : PySem.W.nsIn K mainGlobals "is_sums" = some (some (.ref f7))) (l7 : K.lookup f7 = some ⟨oc7, od7, .func (PySem.W.fnOf "is_sums" "is_sums" (defArgs s_is_sums) (defBody s_is_sums) (defScope s_is_sums) .none kV7 dc7 pm7 an7 cd7 ct7), sl7⟩) (c7 : PySem.W.codeIn K cd7 "is_sums" = true) (k7 : PySem.W.keepIn K (.ref f7) = true)
    {f8 : Addr} {od8 an8 : Option Addr} {sl8 : Array (Option Value)} {oc8 kV8 dc8 pm8 cd8 ct8 : Value} (a8 : PySem.W.nsIn K mainGlobals "is_tuple" = some (some (.ref f8))) (l8 : K.lookup f8 = some ⟨oc8, od8, .func (PySem.W.fnOf "is_tuple" "is_tuple" (defArgs s_is_tuple) (defBody s_is_tuple) (defScope s_is_tuple) .none kV8 dc8 pm8 an8 cd8 ct8), sl8⟩) (c8 : PySem.W.codeIn K cd8 "is_tuple" = true) (k8 : PySem.W.keepIn K (.ref f8) = true)
    {f9 : Addr} {od9 an9 : Option Addr} {sl9 : Array (Option Value)} {oc9 kV9 dc9 pm9 cd9 ct9 : Value} (a9 : PySem.W.nsIn K mainGlobals "inner_words" = some (some (.ref f9))) (l9 : K.lookup f9 = some ⟨oc9, od9, .func (PySem.W.fnOf "inner_words" "inner_words" (defArgs s_inner_words) (defBody s_inner_words) (defScope s_inner_words) .none kV9 dc9 pm9 an9 cd9 ct9), sl9⟩) (c9 : PySem.W.codeIn K cd9 "inner_words" = true) (k9 : PySem.W.keepIn K (.ref f9) = true)
    {f10 : Addr} {od10 an10 : Option Addr} {sl10 : Array (Option Value)} {oc10 kV10 dc10 pm10 cd10 ct10 : Value} (a10 : PySem.W.nsIn K mainGlobals "_fits" = some (some (.ref f10))) (l10 : K.lookup f10 = some ⟨oc10, od10, .func (PySem.W.fnOf "_fits" "_fits" (defArgs s__fits) (defBody s__fits) (defScope s__fits) .none kV10 dc10 pm10 an10 cd10 ct10), sl10⟩) (c10 : PySem.W.codeIn K cd10 "_fits" = true) (k10 : PySem.W.keepIn K (.ref f10) = true)
    {f11 : Addr} {od11 an11 : Option Addr} {sl11 : Array (Option Value)} {oc11 kV11 dc11 pm11 cd11 ct11 : Value} (a11 : PySem.W.nsIn K mainGlobals "_inner_parts" = some (some (.ref f11))) (l11 : K.lookup f11 = some ⟨oc11, od11, .func (PySem.W.fnOf "_inner_parts" "_inner_parts" (defArgs s__inner_parts) (defBody s__inner_parts) (defScope s__inner_parts) .none kV11 dc11 pm11 an11 cd11 ct11), sl11⟩) (c11 : PySem.W.codeIn K cd11 "_inner_parts" = true) (k11 : PySem.W.keepIn K (.ref f11) = true)
    {f12 : Addr} {od12 an12 : Option Addr} {sl12 : Array (Option Value)} {oc12 kV12 dc12 pm12 cd12 ct12 : Value} (a12 : PySem.W.nsIn K mainGlobals "first_wrong" = some (some (.ref f12))) (l12 : K.lookup f12 = some ⟨oc12, od12, .func (PySem.W.fnOf "first_wrong" "first_wrong" (defArgs s_first_wrong) (defBody s_first_wrong) (defScope s_first_wrong) .none kV12 dc12 pm12 an12 cd12 ct12), sl12⟩) (c12 : PySem.W.codeIn K cd12 "first_wrong" = true) (k12 : PySem.W.keepIn K (.ref f12) = true)
    {f13 : Addr} {od13 an13 : Option Addr} {sl13 : Array (Option Value)} {oc13 kV13 dc13 pm13 cd13 ct13 : Value} (a13 : PySem.W.nsIn K mainGlobals "is_count" = some (some (.ref f13))) (l13 : K.lookup f13 = some ⟨oc13, od13, .func (PySem.W.fnOf "is_count" "is_count" (defArgs s_is_count) (defBody s_is_count) (defScope s_is_count) .none kV13 dc13 pm13 an13 cd13 ct13), sl13⟩) (c13 : PySem.W.codeIn K cd13 "is_count" = true) (k13 : PySem.W.keepIn K (.ref f13) = true)
    {f14 : Addr} {od14 an14 : Option Addr} {sl14 : Array (Option Value)} {oc14 kV14 dc14 pm14 cd14 ct14 : Value} (a14 : PySem.W.nsIn K mainGlobals "is_condition" = some (some (.ref f14))) (l14 : K.lookup f14 = some ⟨oc14, od14, .func (PySem.W.fnOf "is_condition" "is_condition" (defArgs s_is_condition) (defBody s_is_condition) (defScope s_is_condition) .none kV14 dc14 pm14 an14 cd14 ct14), sl14⟩) (c14 : PySem.W.codeIn K cd14 "is_condition" = true) (k14 : PySem.W.keepIn K (.ref f14) = true)
    {f15 : Addr} {od15 an15 : Option Addr} {sl15 : Array (Option Value)} {oc15 kV15 dc15 pm15 cd15 ct15 : Value} (a15 : PySem.W.nsIn K mainGlobals "_law_reader" = some (some (.ref f15))) (l15 : K.lookup f15 = some ⟨oc15, od15, .func (PySem.W.fnOf "_law_reader" "_law_reader" (defArgs s__law_reader) (defBody s__law_reader) (defScope s__law_reader) .none kV15 dc15 pm15 an15 cd15 ct15), sl15⟩) (c15 : PySem.W.codeIn K cd15 "_law_reader" = true) (k15 : PySem.W.keepIn K (.ref f15) = true)
    {f16 : Addr} {od16 an16 : Option Addr} {sl16 : Array (Option Value)} {oc16 kV16 dc16 pm16 cd16 ct16 : Value} (a16 : PySem.W.nsIn K mainGlobals "_law_draw" = some (some (.ref f16))) (l16 : K.lookup f16 = some ⟨oc16, od16, .func (PySem.W.fnOf "_law_draw" "_law_draw" (defArgs s__law_draw) (defBody s__law_draw) (defScope s__law_draw) .none kV16 dc16 pm16 an16 cd16 ct16), sl16⟩) (c16 : PySem.W.codeIn K cd16 "_law_draw" = true) (k16 : PySem.W.keepIn K (.ref f16) = true)
    {f17 : Addr} {od17 an17 : Option Addr} {sl17 : Array (Option Value)} {oc17 kV17 dc17 pm17 cd17 ct17 : Value} (a17 : PySem.W.nsIn K mainGlobals "_law_changed" = some (some (.ref f17))) (l17 : K.lookup f17 = some ⟨oc17, od17, .func (PySem.W.fnOf "_law_changed" "_law_changed" (defArgs s__law_changed) (defBody s__law_changed) (defScope s__law_changed) .none kV17 dc17 pm17 an17 cd17 ct17), sl17⟩) (c17 : PySem.W.codeIn K cd17 "_law_changed" = true) (k17 : PySem.W.keepIn K (.ref f17) = true)
    {f18 : Addr} {od18 an18 : Option Addr} {sl18 : Array (Option Value)} {oc18 kV18 dc18 pm18 cd18 ct18 : Value} (a18 : PySem.W.nsIn K mainGlobals "_law_is_integer" = some (some (.ref f18))) (l18 : K.lookup f18 = some ⟨oc18, od18, .func (PySem.W.fnOf "_law_is_integer" "_law_is_integer" (defArgs s__law_is_integer) (defBody s__law_is_integer) (defScope s__law_is_integer) .none kV18 dc18 pm18 an18 cd18 ct18), sl18⟩) (c18 : PySem.W.codeIn K cd18 "_law_is_integer" = true) (k18 : PySem.W.keepIn K (.ref f18) = true)
    {f19 : Addr} {od19 an19 : Option Addr} {sl19 : Array (Option Value)} {oc19 kV19 dc19 pm19 cd19 ct19 : Value} (a19 : PySem.W.nsIn K mainGlobals "_law_is_name" = some (some (.ref f19))) (l19 : K.lookup f19 = some ⟨oc19, od19, .func (PySem.W.fnOf "_law_is_name" "_law_is_name" (defArgs s__law_is_name) (defBody s__law_is_name) (defScope s__law_is_name) .none kV19 dc19 pm19 an19 cd19 ct19), sl19⟩) (c19 : PySem.W.codeIn K cd19 "_law_is_name" = true) (k19 : PySem.W.keepIn K (.ref f19) = true)
    {f20 : Addr} {od20 an20 : Option Addr} {sl20 : Array (Option Value)} {oc20 kV20 dc20 pm20 cd20 ct20 : Value} (a20 : PySem.W.nsIn K mainGlobals "_law_plan" = some (some (.ref f20))) (l20 : K.lookup f20 = some ⟨oc20, od20, .func (PySem.W.fnOf "_law_plan" "_law_plan" (defArgs s__law_plan) (defBody s__law_plan) (defScope s__law_plan) .none kV20 dc20 pm20 an20 cd20 ct20), sl20⟩) (c20 : PySem.W.codeIn K cd20 "_law_plan" = true) (k20 : PySem.W.keepIn K (.ref f20) = true)
    {f21 : Addr} {od21 an21 : Option Addr} {sl21 : Array (Option Value)} {oc21 kV21 dc21 pm21 cd21 ct21 : Value} (a21 : PySem.W.nsIn K mainGlobals "_law_part_ok" = some (some (.ref f21))) (l21 : K.lookup f21 = some ⟨oc21, od21, .func (PySem.W.fnOf "_law_part_ok" "_law_part_ok" (defArgs s__law_part_ok) (defBody s__law_part_ok) (defScope s__law_part_ok) .none kV21 dc21 pm21 an21 cd21 ct21), sl21⟩) (c21 : PySem.W.codeIn K cd21 "_law_part_ok" = true) (k21 : PySem.W.keepIn K (.ref f21) = true)
    {f22 : Addr} {od22 an22 : Option Addr} {sl22 : Array (Option Value)} {oc22 kV22 dc22 pm22 cd22 ct22 : Value} (a22 : PySem.W.nsIn K mainGlobals "_law_wrong" = some (some (.ref f22))) (l22 : K.lookup f22 = some ⟨oc22, od22, .func (PySem.W.fnOf "_law_wrong" "_law_wrong" (defArgs s__law_wrong) (defBody s__law_wrong) (defScope s__law_wrong) .none kV22 dc22 pm22 an22 cd22 ct22), sl22⟩) (c22 : PySem.W.codeIn K cd22 "_law_wrong" = true) (k22 : PySem.W.keepIn K (.ref f22) = true)
    {f23 : Addr} {od23 an23 : Option Addr} {sl23 : Array (Option Value)} {oc23 kV23 dc23 pm23 cd23 ct23 : Value} (a23 : PySem.W.nsIn K mainGlobals "_law_leaf" = some (some (.ref f23))) (l23 : K.lookup f23 = some ⟨oc23, od23, .func (PySem.W.fnOf "_law_leaf" "_law_leaf" (defArgs s__law_leaf) (defBody s__law_leaf) (defScope s__law_leaf) .none kV23 dc23 pm23 an23 cd23 ct23), sl23⟩) (c23 : PySem.W.codeIn K cd23 "_law_leaf" = true) (k23 : PySem.W.keepIn K (.ref f23) = true)
    {f24 : Addr} {od24 an24 : Option Addr} {sl24 : Array (Option Value)} {oc24 kV24 dc24 pm24 cd24 ct24 : Value} (a24 : PySem.W.nsIn K mainGlobals "_law_number" = some (some (.ref f24))) (l24 : K.lookup f24 = some ⟨oc24, od24, .func (PySem.W.fnOf "_law_number" "_law_number" (defArgs s__law_number) (defBody s__law_number) (defScope s__law_number) .none kV24 dc24 pm24 an24 cd24 ct24), sl24⟩) (c24 : PySem.W.codeIn K cd24 "_law_number" = true) (k24 : PySem.W.keepIn K (.ref f24) = true)
    {f25 : Addr} {od25 an25 : Option Addr} {sl25 : Array (Option Value)} {oc25 kV25 dc25 pm25 cd25 ct25 : Value} (a25 : PySem.W.nsIn K mainGlobals "_law_condition" = some (some (.ref f25))) (l25 : K.lookup f25 = some ⟨oc25, od25, .func (PySem.W.fnOf "_law_condition" "_law_condition" (defArgs s__law_condition) (defBody s__law_condition) (defScope s__law_condition) .none kV25 dc25 pm25 an25 cd25 ct25), sl25⟩) (c25 : PySem.W.codeIn K cd25 "_law_condition" = true) (k25 : PySem.W.keepIn K (.ref f25) = true)
    {f26 : Addr} {od26 an26 : Option Addr} {sl26 : Array (Option Value)} {oc26 kV26 dc26 pm26 cd26 ct26 : Value} (a26 : PySem.W.nsIn K mainGlobals "_law_random_sum" = some (some (.ref f26))) (l26 : K.lookup f26 = some ⟨oc26, od26, .func (PySem.W.fnOf "_law_random_sum" "_law_random_sum" (defArgs s__law_random_sum) (defBody s__law_random_sum) (defScope s__law_random_sum) .none kV26 dc26 pm26 an26 cd26 ct26), sl26⟩) (c26 : PySem.W.codeIn K cd26 "_law_random_sum" = true) (k26 : PySem.W.keepIn K (.ref f26) = true)
    {f27 : Addr} {od27 an27 : Option Addr} {sl27 : Array (Option Value)} {oc27 kV27 dc27 pm27 cd27 ct27 : Value} (a27 : PySem.W.nsIn K mainGlobals "_law_is_sum" = some (some (.ref f27))) (l27 : K.lookup f27 = some ⟨oc27, od27, .func (PySem.W.fnOf "_law_is_sum" "_law_is_sum" (defArgs s__law_is_sum) (defBody s__law_is_sum) (defScope s__law_is_sum) .none kV27 dc27 pm27 an27 cd27 ct27), sl27⟩) (c27 : PySem.W.codeIn K cd27 "_law_is_sum" = true) (k27 : PySem.W.keepIn K (.ref f27) = true)
    {f28 : Addr} {od28 an28 : Option Addr} {sl28 : Array (Option Value)} {oc28 kV28 dc28 pm28 cd28 ct28 : Value} (a28 : PySem.W.nsIn K mainGlobals "_law_are_sums" = some (some (.ref f28))) (l28 : K.lookup f28 = some ⟨oc28, od28, .func (PySem.W.fnOf "_law_are_sums" "_law_are_sums" (defArgs s__law_are_sums) (defBody s__law_are_sums) (defScope s__law_are_sums) .none kV28 dc28 pm28 an28 cd28 ct28), sl28⟩) (c28 : PySem.W.codeIn K cd28 "_law_are_sums" = true) (k28 : PySem.W.keepIn K (.ref f28) = true)
    {f29 : Addr} {od29 an29 : Option Addr} {sl29 : Array (Option Value)} {oc29 kV29 dc29 pm29 cd29 ct29 : Value} (a29 : PySem.W.nsIn K mainGlobals "_law_plain_values" = some (some (.ref f29))) (l29 : K.lookup f29 = some ⟨oc29, od29, .func (PySem.W.fnOf "_law_plain_values" "_law_plain_values" (defArgs s__law_plain_values) (defBody s__law_plain_values) (defScope s__law_plain_values) .none kV29 dc29 pm29 an29 cd29 ct29), sl29⟩) (c29 : PySem.W.codeIn K cd29 "_law_plain_values" = true) (k29 : PySem.W.keepIn K (.ref f29) = true)
    {f30 : Addr} {od30 an30 : Option Addr} {sl30 : Array (Option Value)} {oc30 kV30 dc30 pm30 cd30 ct30 : Value} (a30 : PySem.W.nsIn K mainGlobals "_law_expressions" = some (some (.ref f30))) (l30 : K.lookup f30 = some ⟨oc30, od30, .func (PySem.W.fnOf "_law_expressions" "_law_expressions" (defArgs s__law_expressions) (defBody s__law_expressions) (defScope s__law_expressions) .none kV30 dc30 pm30 an30 cd30 ct30), sl30⟩) (c30 : PySem.W.codeIn K cd30 "_law_expressions" = true) (k30 : PySem.W.keepIn K (.ref f30) = true)
    {f31 : Addr} {od31 an31 : Option Addr} {sl31 : Array (Option Value)} {oc31 kV31 dc31 pm31 cd31 ct31 : Value} (a31 : PySem.W.nsIn K mainGlobals "law" = some (some (.ref f31))) (l31 : K.lookup f31 = some ⟨oc31, od31, .func (PySem.W.fnOf "law" "law" (defArgs s_law) (defBody s_law) (defScope s_law) .none kV31 dc31 pm31 an31 cd31 ct31), sl31⟩) (c31 : PySem.W.codeIn K cd31 "law" = true) (k31 : PySem.W.keepIn K (.ref f31) = true)
    (z1 : PySem.W.nsIn K mainGlobals "isinstance" = some none)
    (z2 : PySem.W.nsIn K mainGlobals "int" = some none)
    (z3 : PySem.W.nsIn K mainGlobals "bool" = some none)
    (z4 : PySem.W.nsIn K mainGlobals "str" = some none)
    (z5 : PySem.W.nsIn K mainGlobals "tuple" = some none)
    (z6 : PySem.W.nsIn K mainGlobals "list" = some none)
    (z7 : PySem.W.nsIn K mainGlobals "len" = some none)
    (z8 : PySem.W.nsIn K mainGlobals "all" = some none)
    (z9 : PySem.W.nsIn K mainGlobals "range" = some none)
    (z10 : PySem.W.nsIn K mainGlobals "sorted" = some none)
    (z11 : PySem.W.nsIn K mainGlobals "set" = some none)
    (z12 : PySem.W.nsIn K mainGlobals "repr" = some none) :
    ∃ fd : FuncData, (∀ (s : Shared) (v : Value), BindsTo s fd ⟨[v], []⟩ [("_law_script", v)]) ∧ ∀ low : Heap, K.In low → low.Ns mainGlobals mg → FnG P w K mg low 24 fa fd ["_law_script"] (spLaw K) := by
  have e := hfa.symm.trans (PySem.W.mg_of X G a31)
  cases e
  have F1 := fun_mk (st := s_is_integer) l1 c1 k1
  have b1 := F1.binds (ps := ["thing"]) fun _ _ _ _ _ _ us hl => match us, hl with | [_], _ => rfl
  have m1 := PySem.W.mg_of X G a1
  have F2 := fun_mk (st := s_is_number) l2 c2 k2
  have b2 := F2.binds (ps := ["thing"]) fun _ _ _ _ _ _ us hl => match us, hl with | [_], _ => rfl
  have m2 := PySem.W.mg_of X G a2
  have F3 := fun_mk (st := s_is_name) l3 c3 k3
  have b3 := F3.binds (ps := ["thing"]) fun _ _ _ _ _ _ us hl => match us, hl with | [_], _ => rfl
  have m3 := PySem.W.mg_of X G a3
  have F4 := fun_mk (st := s_is_integers) l4 c4 k4
  have b4 := F4.binds (ps := ["thing"]) fun _ _ _ _ _ _ us hl => match us, hl with | [_], _ => rfl
  have m4 := PySem.W.mg_of X G a4
  have F5 := fun_mk (st := s_is_sum) l5 c5 k5
  have b5 := F5.binds (ps := ["thing", "many"]) fun _ _ _ _ _ _ us hl => match us, hl with | [_, _], _ => rfl
  have m5 := PySem.W.mg_of X G a5
  have F6 := fun_mk (st := s_is_ascending) l6 c6 k6
  have b6 := F6.binds (ps := ["things"]) fun _ _ _ _ _ _ us hl => match us, hl with | [_], _ => rfl
  have m6 := PySem.W.mg_of X G a6
  have F7 := fun_mk (st := s_is_sums) l7 c7 k7
  have b7 := F7.binds (ps := ["thing", "many"]) fun _ _ _ _ _ _ us hl => match us, hl with | [_, _], _ => rfl
  have m7 := PySem.W.mg_of X G a7
  have F8 := fun_mk (st := s_is_tuple) l8 c8 k8
  have b8 := F8.binds (ps := ["thing", "many"]) fun _ _ _ _ _ _ us hl => match us, hl with | [_, _], _ => rfl
  have m8 := PySem.W.mg_of X G a8
  have F9 := fun_mk (st := s_inner_words) l9 c9 k9
  have b9 := F9.binds (ps := ["word"]) fun _ _ _ _ _ _ us hl => match us, hl with | [_], _ => rfl
  have m9 := PySem.W.mg_of X G a9
  have F10 := fun_mk (st := s__fits) l10 c10 k10
  have b10 := F10.binds (ps := ["part", "words", "names"]) fun _ _ _ _ _ _ us hl => match us, hl with | [_, _, _], _ => rfl
  have m10 := PySem.W.mg_of X G a10
  have F11 := fun_mk (st := s__inner_parts) l11 c11 k11
  have b11 := F11.binds (ps := ["path", "part"]) fun _ _ _ _ _ _ us hl => match us, hl with | [_, _], _ => rfl
  have m11 := PySem.W.mg_of X G a11
  have F12 := fun_mk (st := s_first_wrong) l12 c12 k12
  have b12 := F12.binds (ps := ["thing", "words", "names"]) fun _ _ _ _ _ _ us hl => match us, hl with | [_, _, _], _ => rfl
  have m12 := PySem.W.mg_of X G a12
  have F13 := fun_mk (st := s_is_count) l13 c13 k13
  have b13 := F13.binds (ps := ["thing"]) fun _ _ _ _ _ _ us hl => match us, hl with | [_], _ => rfl
  have m13 := PySem.W.mg_of X G a13
  have F14 := fun_mk (st := s_is_condition) l14 c14 k14
  have b14 := F14.binds (ps := ["thing"]) fun _ _ _ _ _ _ us hl => match us, hl with | [_], _ => rfl
  have m14 := PySem.W.mg_of X G a14
  have F15 := fun_mk (st := s__law_reader) l15 c15 k15
  have b15 := F15.binds (ps := ["_law_script"]) fun _ _ _ _ _ _ us hl => match us, hl with | [_], _ => rfl
  have m15 := PySem.W.mg_of X G a15
  have F16 := fun_mk (st := s__law_draw) l16 c16 k16
  have b16 := F16.binds (ps := ["_law_reader_here", "_law_many"]) fun _ _ _ _ _ _ us hl => match us, hl with | [_, _], _ => rfl
  have m16 := PySem.W.mg_of X G a16
  have F17 := fun_mk (st := s__law_changed) l17 c17 k17
  have b17 := F17.binds (ps := ["_law_reader_here", "_law_thing", "_law_menu"]) fun _ _ _ _ _ _ us hl => match us, hl with | [_, _, _], _ => rfl
  have m17 := PySem.W.mg_of X G a17
  have F18 := fun_mk (st := s__law_is_integer) l18 c18 k18
  have b18 := F18.binds (ps := ["_law_thing"]) fun _ _ _ _ _ _ us hl => match us, hl with | [_], _ => rfl
  have m18 := PySem.W.mg_of X G a18
  have F19 := fun_mk (st := s__law_is_name) l19 c19 k19
  have b19 := F19.binds (ps := ["_law_thing"]) fun _ _ _ _ _ _ us hl => match us, hl with | [_], _ => rfl
  have m19 := PySem.W.mg_of X G a19
  have F20 := fun_mk (st := s__law_plan) l20 c20 k20
  have b20 := F20.binds (ps := ["_law_goal", "_law_word"]) fun _ _ _ _ _ _ us hl => match us, hl with | [_, _], _ => rfl
  have m20 := PySem.W.mg_of X G a20
  have F21 := fun_mk (st := s__law_part_ok) l21 c21 k21
  have b21 := F21.binds (ps := ["_law_slots", "_law_goal", "_law_item"]) fun _ _ _ _ _ _ us hl => match us, hl with | [_, _, _], _ => rfl
  have m21 := PySem.W.mg_of X G a21
  have F22 := fun_mk (st := s__law_wrong) l22 c22 k22
  have b22 := F22.binds (ps := ["_law_slots", "_law_goal", "_law_item", "_law_path_now"]) fun _ _ _ _ _ _ us hl => match us, hl with | [_, _, _, _], _ => rfl
  have m22 := PySem.W.mg_of X G a22
  have F23 := fun_mk (st := s__law_leaf) l23 c23 k23
  have b23 := F23.binds (ps := ["_law_reader_here", "_law_slots"]) fun _ _ _ _ _ _ us hl => match us, hl with | [_, _], _ => rfl
  have m23 := PySem.W.mg_of X G a23
  have F24 := fun_mk (st := s__law_number) l24 c24 k24
  have b24 := F24.binds (ps := ["_law_reader_here", "_law_slots", "_law_deep"]) fun _ _ _ _ _ _ us hl => match us, hl with | [_, _, _], _ => rfl
  have m24 := PySem.W.mg_of X G a24
  have F25 := fun_mk (st := s__law_condition) l25 c25 k25
  have b25 := F25.binds (ps := ["_law_reader_here", "_law_slots", "_law_deep"]) fun _ _ _ _ _ _ us hl => match us, hl with | [_, _, _], _ => rfl
  have m25 := PySem.W.mg_of X G a25
  have F26 := fun_mk (st := s__law_random_sum) l26 c26 k26
  have b26 := F26.binds (ps := ["_law_reader_here", "_law_many"]) fun _ _ _ _ _ _ us hl => match us, hl with | [_, _], _ => rfl
  have m26 := PySem.W.mg_of X G a26
  have F27 := fun_mk (st := s__law_is_sum) l27 c27 k27
  have b27 := F27.binds (ps := ["_law_thing", "_law_many"]) fun _ _ _ _ _ _ us hl => match us, hl with | [_, _], _ => rfl
  have m27 := PySem.W.mg_of X G a27
  have F28 := fun_mk (st := s__law_are_sums) l28 c28 k28
  have b28 := F28.binds (ps := ["_law_thing", "_law_many"]) fun _ _ _ _ _ _ us hl => match us, hl with | [_, _], _ => rfl
  have m28 := PySem.W.mg_of X G a28
  have F29 := fun_mk (st := s__law_plain_values) l29 c29 k29
  have b29 := F29.binds (ps := []) fun _ _ _ _ _ _ us hl => match us, hl with | [], _ => rfl
  have m29 := PySem.W.mg_of X G a29
  have F30 := fun_mk (st := s__law_expressions) l30 c30 k30
  have b30 := F30.binds (ps := []) fun _ _ _ _ _ _ us hl => match us, hl with | [], _ => rfl
  have m30 := PySem.W.mg_of X G a30
  have F31 := fun_mk (st := s_law) l31 c31 k31
  have b31 := F31.binds (ps := ["_law_script"]) fun _ _ _ _ _ _ us hl => match us, hl with | [_], _ => rfl
  have m31 := PySem.W.mg_of X G a31
  have u : Bu mg := ⟨PySem.W.mg_none_of X G z1, PySem.W.mg_none_of X G z2, PySem.W.mg_none_of X G z3, PySem.W.mg_none_of X G z4, PySem.W.mg_none_of X G z5, PySem.W.mg_none_of X G z6, PySem.W.mg_none_of X G z7, PySem.W.mg_none_of X G z8, PySem.W.mg_none_of X G z9, PySem.W.mg_none_of X G z10, PySem.W.mg_none_of X G z11, PySem.W.mg_none_of X G z12⟩
  refine ⟨PySem.W.fnOf "law" "law" (defArgs s_law) (defBody s_law) (defScope s_law) .none kV31 dc31 pm31 an31 cd31 ct31, fun s v => .of_eq rfl, fun low _ _ => ?_⟩
  have dDraw := Dl.Fun.def_ F16 (ok_draw (P := P) (w := w) (base := low) (k := 0) F16 u) m16 b16
  have dDrw := drw dDraw
  have dInt := Dl.Fun.def_ F1 (ok_is_integer (P := P) (w := w) (base := low) (Wo := W4) (k := 0) F1 u) m1 b1
  have dLint := Dl.Fun.def_ F18 (ok_l_integer (P := P) (w := w) (base := low) (Wo := W4) (k := 0) F18 u) m18 b18
  have dLname := Dl.Fun.def_ F19 (ok_l_name (P := P) (w := w) (base := low) (Wo := W4) (k := 0) F19 u) m19 b19
  have dPlan := Dl.Fun.def_ F20 (ok_l_plan (P := P) (w := w) (base := low) (Wo := W4) (k := 0) F20) m20 b20
  have dPlain := Dl.Fun.def_ F29 (ok_plain (P := P) (w := w) (base := low) (Wo := W4) (k := 0) F29 u) m29 b29
  have dExprs := Dl.Fun.def_ F30 (ok_exprs (P := P) (w := w) (base := low) (Wo := W4) (k := 0) F30 u) m30 b30
  have dName := Dl.Fun.def_ F3 (ok_is_name (P := P) (w := w) (base := low) (Wo := W4) (k := 0) F3 u ga) m3 b3
  have dAsc := Dl.Fun.def_ F6 (ok_is_ascending (P := P) (w := w) (base := low) (Wo := W4) (k := 0) F6 u) m6 b6
  have dWords := Dl.Fun.def_ F9 (ok_inner_words (P := P) (w := w) (base := low) (Wo := W4) (k := 0) F9 gc) m9 b9
  have dNumber := Dl.Fun.def_ F2 (ok_is_number (P := P) (w := w) (base := low) (Wo := W4) (k := 1) F2 u dInt) m2 b2
  have dInts := Dl.Fun.def_ F4 (ok_is_integers (P := P) (w := w) (base := low) (Wo := W4) (k := 1) F4 u dInt) m4 b4
  have dTup := Dl.Fun.def_ F8 (ok_is_tuple (P := P) (w := w) (base := low) (Wo := W4) (k := 0) F8 u) m8 b8
  have dSum := Dl.Fun.def_ F5 (ok_is_sum (P := P) (w := w) (base := low) (Wo := W4) (k := 2) F5 u (dTup.mono (by decide)) dInts) m5 b5
  have dSums := Dl.Fun.def_ F7 (ok_is_sums (P := P) (w := w) (base := low) (Wo := W4) (k := 3) F7 u dSum (dAsc.mono (by decide))) m7 b7
  have dFits := Dl.Fun.def_ F10 (ok_fits (P := P) (w := w) (base := low) (Wo := W4) (k := 1) F10 u gc dInt dName) m10 b10
  have dInner := Dl.Fun.def_ F11 (ok_inner_parts (P := P) (w := w) (base := low) (Wo := W4) (k := 1) F11 u dInt) m11 b11
  have dFirst := Dl.Fun.def_ F12 (ok_first_wrong (P := P) (w := w) (base := low) (Wo := W4) (k := 2) F12 u dFits dInner (dWords.mono (by decide))) m12 b12
  have dCount := Dl.Fun.def_ F13 (ok_is_count (P := P) (w := w) (base := low) (Wo := W4) (k := 3) F13 gc dFirst) m13 b13
  have dCond := Dl.Fun.def_ F14 (ok_is_condition (P := P) (w := w) (base := low) (Wo := W4) (k := 3) F14 gc dFirst) m14 b14
  have dPart := Dl.Fun.def_ F21 (ok_l_part_ok (P := P) (w := w) (base := low) (Wo := W4) (k := 1) F21 u dLint dLname dPlan) m21 b21
  have dWrong := Dl.Fun.def_ F22 (ok_l_wrong_all (P := P) (w := w) (base := low) (Wo := W4) (m := 2) F22 u dPart (dPlan.mono (by decide)) m22 b22 20) m22 b22
  have dLeaf := Dl.Fun.def_ F23 (ok_leaf (P := P) (w := w) (base := low) (Wo := W4) (k := 1) F23 u dDrw) m23 b23
  have dNum : ∀ n, n ≤ 2 → Def P w K W4 mg low 5 "_law_number" 3 (S_num n) := fun n hn => (Dl.Fun.def_ F24 (ok_num_all (P := P) (w := w) (base := low) (Wo := W4) (m := 2) F24 u (dDrw.mono (by decide)) dLeaf m24 b24 n) m24 b24).mono (by omega)
  have dCnd := Dl.Fun.def_ F25 (ok_cond_all (P := P) (w := w) (base := low) (Wo := W4) (m := 5) (N := 2) F25 u (dDrw.mono (by decide)) (dLeaf.mono (by decide)) dNum m25 b25 2 (by decide)) m25 b25
  have dRsum := Dl.Fun.def_ F26 (ok_rsum (P := P) (w := w) (base := low) (Wo := W4) (k := 1) F26 u dDrw) m26 b26
  have dC4 := Dl.Fun.def_ F17 (ok_chg_all (P := P) (w := w) (base := low) (Wo := W4) (m := 1) F17 u dDrw m17 b17 4) m17 b17
  have dC6 := Dl.Fun.def_ F17 (ok_chg_all (P := P) (w := w) (base := low) (Wo := W4) (m := 1) F17 u dDrw m17 b17 6) m17 b17
  have dLsum := Dl.Fun.def_ F27 (ok_l_sum (P := P) (w := w) (base := low) (Wo := W4) (k := 1) F27 u dLint) m27 b27
  have dLsums := Dl.Fun.def_ F28 (ok_l_sums (P := P) (w := w) (base := low) (Wo := W4) (k := 2) F28 u dLsum) m28 b28
  have ds : Ds P w K mg low 23 := ⟨(dDrw).mono (by decide), (dNum 2 (by decide)).mono (by decide), (dCnd).mono (by decide), (dRsum).mono (by decide), (dC4).mono (by decide), (dC6).mono (by decide), (dPlain).mono (by decide), (dExprs).mono (by decide), (dLint).mono (by decide), (dLname).mono (by decide), (dLsum).mono (by decide), (dLsums).mono (by decide), (dWrong).mono (by decide), (dInt).mono (by decide), (dNumber).mono (by decide), (dName).mono (by decide), (dSum).mono (by decide), (dSums).mono (by decide), (dCount).mono (by decide), (dCond).mono (by decide)⟩
  exact ok_law_of (k := 23) F31 ((ok_reader (P := P) (w := w) (base := low) (k := 0) F15).mono (by decide)) m15 F15.kp b15 fun cdv A outer s H E M t hr hg hl hd => law_body u ds cdv A outer s H E M t hr hg hl hd
end K01
end
section
set_option maxRecDepth 100000
set_option maxHeartbeats 4000000
namespace K01
open PySem PySem.Spec PyProof.Rows L2 Dl
section
variable {w : World} {K : PySem.W.Frag} {h : Heap} {mg : Str → Option Value}
theorem ga_mk (X : K.In h) (G : h.Ns mainGlobals mg) {t1 t2 : Tok} (a : PySem.W.nsIn K mainGlobals "LETTERS" = some (some (.str "abcdefghijklmnopqrstuvwxyz" t1))) (b : PySem.W.nsIn K mainGlobals "LONGEST_NAME" = some (some (.int 8 t2))) : Ga K w mg :=
  ⟨⟨_, PySem.W.mg_of X G a⟩, ⟨_, PySem.W.mg_of X G b⟩⟩
theorem da_strs {G : Hp} : ∀ ss : List Str, DeAll K G (ss.map V.str) (ss.map PyData.str)
  | [] => .nil
  | s :: ss => .cons (.str s) (da_strs ss)
theorem de_strs {a : Addr} {o : Obj} {its : Array Value} {n : Nat} (ss : List Str) (l : K.lookup a = some o) (hc : o.cls = .type "tuple") (hd : o.data = .seq its n) (hs : its.size ≤ sizeLine) (hv : Vals (ss.map V.str) its.toList) (G : Hp) : De K G (.ref a) (.tuple (ss.map PyData.str)) :=
  .tup (.inr ⟨o, its, n, l, hc, hd, hs, hv⟩) (da_strs ss)
theorem gc_mk (X : K.In h) (G : h.Ns mainGlobals mg) {c1 c2 c3 c4 : Addr} {t1 t2 t3 t4 t5 t6 t7 t8 t9 t10 t11 t12 u1 u2 u3 u4 u5 u6 u7 u8 u9 : Tok} {od1 od2 od3 : Option Addr} {n1 n2 n3 n4 : Nat} {sl1 sl2 sl3 : Array (Option Value)} {es : Array DictEntry}
    (a1 : PySem.W.nsIn K mainGlobals "COUNT_WORDS" = some (some (.ref c1))) (l1 : K.lookup c1 = some ⟨.type "tuple", od1, .seq #[.str "item" t1, .str "+" t2, .str "-" t3, .str "*" t4] n1, sl1⟩)
    (a2 : PySem.W.nsIn K mainGlobals "RULE_WORDS" = some (some (.ref c2))) (l2 : K.lookup c2 = some ⟨.type "tuple", od2, .seq #[.str "=" t5, .str "<" t6, .str "and" t7, .str "or" t8, .str "not" t9] n2, sl2⟩)
    (a3 : PySem.W.nsIn K mainGlobals "JOINING_WORDS" = some (some (.ref c3))) (l3 : K.lookup c3 = some ⟨.type "tuple", od3, .seq #[.str "and" t10, .str "or" t11, .str "not" t12] n3, sl3⟩)
    (a4 : PySem.W.nsIn K mainGlobals "LENGTHS" = some (some (.ref c4))) (l4 : K.lookup c4 = some ⟨.type "dict", none, .dict es n4, #[]⟩) (k4 : PySem.W.KeysLit w.params es.toList)
    (d1 : PySem.W.nsIn K c4 "item" = some (some (.int 2 u1))) (d2 : PySem.W.nsIn K c4 "+" = some (some (.int 3 u2))) (d3 : PySem.W.nsIn K c4 "-" = some (some (.int 3 u3))) (d4 : PySem.W.nsIn K c4 "*" = some (some (.int 3 u4))) (d5 : PySem.W.nsIn K c4 "=" = some (some (.int 3 u5)))
    (d6 : PySem.W.nsIn K c4 "<" = some (some (.int 3 u6))) (d7 : PySem.W.nsIn K c4 "and" = some (some (.int 3 u7))) (d8 : PySem.W.nsIn K c4 "or" = some (some (.int 3 u8))) (d9 : PySem.W.nsIn K c4 "not" = some (some (.int 2 u9))) : Gc K w mg where
  cw := ⟨c1, PySem.W.mg_of X G a1, de_strs ["item", "+", "-", "*"] l1 rfl rfl (by rw [sizeLine_eq]; exact Nat.le_of_ble_eq_true rfl) (.cons ⟨_, rfl⟩ (.cons ⟨_, rfl⟩ (.cons ⟨_, rfl⟩ (.cons ⟨_, rfl⟩ .nil))))⟩
  rw := ⟨c2, PySem.W.mg_of X G a2, de_strs ["=", "<", "and", "or", "not"] l2 rfl rfl (by rw [sizeLine_eq]; exact Nat.le_of_ble_eq_true rfl) (.cons ⟨_, rfl⟩ (.cons ⟨_, rfl⟩ (.cons ⟨_, rfl⟩ (.cons ⟨_, rfl⟩ (.cons ⟨_, rfl⟩ .nil)))))⟩
  jw := ⟨c3, PySem.W.mg_of X G a3, de_strs ["and", "or", "not"] l3 rfl rfl (by rw [sizeLine_eq]; exact Nat.le_of_ble_eq_true rfl) (.cons ⟨_, rfl⟩ (.cons ⟨_, rfl⟩ (.cons ⟨_, rfl⟩ .nil)))⟩
  len := ⟨c4, PySem.W.mg_of X G a4, fun k s hs => by
    cases k with
    | true =>
      have hs' : s ∈ (["item", "+", "-", "*"] : List Str) := hs
      simp only [List.mem_cons, List.not_mem_nil, or_false] at hs'
      rcases hs' with rfl | rfl | rfl | rfl
      · exact ⟨es, n4, _, l4, k4, d1, ⟨_, rfl⟩⟩
      · exact ⟨es, n4, _, l4, k4, d2, ⟨_, rfl⟩⟩
      · exact ⟨es, n4, _, l4, k4, d3, ⟨_, rfl⟩⟩
      · exact ⟨es, n4, _, l4, k4, d4, ⟨_, rfl⟩⟩
    | false =>
      have hs' : s ∈ (["=", "<", "and", "or", "not"] : List Str) := hs
      simp only [List.mem_cons, List.not_mem_nil, or_false] at hs'
      rcases hs' with rfl | rfl | rfl | rfl | rfl
      · exact ⟨es, n4, _, l4, k4, d5, ⟨_, rfl⟩⟩
      · exact ⟨es, n4, _, l4, k4, d6, ⟨_, rfl⟩⟩
      · exact ⟨es, n4, _, l4, k4, d7, ⟨_, rfl⟩⟩
      · exact ⟨es, n4, _, l4, k4, d8, ⟨_, rfl⟩⟩
      · exact ⟨es, n4, _, l4, k4, d9, ⟨_, rfl⟩⟩⟩
end
end K01
end
section
open PySem PySem.W PyProof.Rows
set_option maxRecDepth 100000
set_option maxHeartbeats 0 in
theorem PySem.Challenge.cw_ownrights_k01_kinds_and_forms_holds : PySem.Challenge.rw_ownrights_k01_kinds_and_forms.Holds := by
  w_on; o_law; k_head; (case hw => w_witness2)
  k_fill
  refine Dl.walk_ofG (l := PySem.Challenge.rw_ownrights_k01_kinds_and_forms) (n := 63) (k := 24) (x := "_law_script") (sp := fun w => Dl.spLaw _) rfl (by decide) rfl ⟨rfl, by decide, by decide⟩ (fun w h Y => PySem.W.kIn_of Y) ?F (fun _ _ a ns hl _ hS => ⟨a, ns, rfl, hS, fun _ => rfl⟩)
  case F =>
    intro w mg fa h KX G hmg
    refine' K01.all_mk KX G hmg (K01.ga_mk KX G ?g1 ?g2) (K01.gc_mk KX G ?e1 ?e2 ?e3 ?e4 ?e5 ?e6 ?e7 ?e8 ?e9 ?e10 ?e11 ?e12 ?e13 ?e14 ?e15 ?e16 ?e17 ?e18) ?a1 ?l1 ?c1 ?k1 ?a2 ?l2 ?c2 ?k2 ?a3 ?l3 ?c3 ?k3 ?a4 ?l4 ?c4 ?k4 ?a5 ?l5 ?c5 ?k5 ?a6 ?l6 ?c6 ?k6 ?a7 ?l7 ?c7 ?k7 ?a8 ?l8 ?c8 ?k8 ?a9 ?l9 ?c9 ?k9 ?a10 ?l10 ?c10 ?k10 ?a11 ?l11 ?c11 ?k11 ?a12 ?l12 ?c12 ?k12 ?a13 ?l13 ?c13 ?k13 ?a14 ?l14 ?c14 ?k14 ?a15 ?l15 ?c15 ?k15 ?a16 ?l16 ?c16 ?k16 ?a17 ?l17 ?c17 ?k17 ?a18 ?l18 ?c18 ?k18 ?a19 ?l19 ?c19 ?k19 ?a20 ?l20 ?c20 ?k20 ?a21 ?l21 ?c21 ?k21 ?a22 ?l22 ?c22 ?k22 ?a23 ?l23 ?c23 ?k23 ?a24 ?l24 ?c24 ?k24 ?a25 ?l25 ?c25 ?k25 ?a26 ?l26 ?c26 ?k26 ?a27 ?l27 ?c27 ?k27 ?a28 ?l28 ?c28 ?k28 ?a29 ?l29 ?c29 ?k29 ?a30 ?l30 ?c30 ?k30 ?a31 ?l31 ?c31 ?k31 ?z1 ?z2 ?z3 ?z4 ?z5 ?z6 ?z7 ?z8 ?z9 ?z10 ?z11 ?z12
    (case g1 => k_is); (case g2 => k_is); (case e1 => k_is); (case e2 => k_is); (case e3 => k_is); (case e4 => k_is); (case e5 => k_is); (case e6 => k_is); (case e7 => k_is); (case e8 => k_is); (case e9 => first | k_is | (simp only [PySem.W.KeysLit]; exact ⟨⟨_, _, rfl, rfl⟩, ⟨_, _, rfl, rfl⟩, ⟨_, _, rfl, rfl⟩, ⟨_, _, rfl, rfl⟩, ⟨_, _, rfl, rfl⟩, ⟨_, _, rfl, rfl⟩, ⟨_, _, rfl, rfl⟩, ⟨_, _, rfl, rfl⟩, ⟨_, _, rfl, rfl⟩, trivial⟩)); (case e10 => k_is); (case e11 => k_is); (case e12 => k_is); (case e13 => k_is); (case e14 => k_is); (case e15 => k_is); (case e16 => k_is); (case e17 => k_is); (case e18 => k_is); (case a1 => k_is); (case l1 => k_is); (case c1 => k_is); (case k1 => k_is); (case a2 => k_is); (case l2 => k_is); (case c2 => k_is); (case k2 => k_is); (case a3 => k_is); (case l3 => k_is); (case c3 => k_is); (case k3 => k_is); (case a4 => k_is); (case l4 => k_is); (case c4 => k_is); (case k4 => k_is); (case a5 => k_is); (case l5 => k_is); (case c5 => k_is); (case k5 => k_is); (case a6 => k_is); (case l6 => k_is); (case c6 => k_is); (case k6 => k_is); (case a7 => k_is); (case l7 => k_is); (case c7 => k_is); (case k7 => k_is); (case a8 => k_is); (case l8 => k_is); (case c8 => k_is); (case k8 => k_is); (case a9 => k_is); (case l9 => k_is); (case c9 => k_is); (case k9 => k_is); (case a10 => k_is); (case l10 => k_is); (case c10 => k_is); (case k10 => k_is); (case a11 => k_is); (case l11 => k_is); (case c11 => k_is); (case k11 => k_is); (case a12 => k_is); (case l12 => k_is); (case c12 => k_is); (case k12 => k_is); (case a13 => k_is); (case l13 => k_is); (case c13 => k_is); (case k13 => k_is); (case a14 => k_is); (case l14 => k_is); (case c14 => k_is); (case k14 => k_is); (case a15 => k_is); (case l15 => k_is); (case c15 => k_is); (case k15 => k_is); (case a16 => k_is); (case l16 => k_is); (case c16 => k_is); (case k16 => k_is); (case a17 => k_is); (case l17 => k_is); (case c17 => k_is); (case k17 => k_is); (case a18 => k_is); (case l18 => k_is); (case c18 => k_is); (case k18 => k_is); (case a19 => k_is); (case l19 => k_is); (case c19 => k_is); (case k19 => k_is); (case a20 => k_is); (case l20 => k_is); (case c20 => k_is); (case k20 => k_is); (case a21 => k_is); (case l21 => k_is); (case c21 => k_is); (case k21 => k_is); (case a22 => k_is); (case l22 => k_is); (case c22 => k_is); (case k22 => k_is); (case a23 => k_is); (case l23 => k_is); (case c23 => k_is); (case k23 => k_is); (case a24 => k_is); (case l24 => k_is); (case c24 => k_is); (case k24 => k_is); (case a25 => k_is); (case l25 => k_is); (case c25 => k_is); (case k25 => k_is); (case a26 => k_is); (case l26 => k_is); (case c26 => k_is); (case k26 => k_is); (case a27 => k_is); (case l27 => k_is); (case c27 => k_is); (case k27 => k_is); (case a28 => k_is); (case l28 => k_is); (case c28 => k_is); (case k28 => k_is); (case a29 => k_is); (case l29 => k_is); (case c29 => k_is); (case k29 => k_is); (case a30 => k_is); (case l30 => k_is); (case c30 => k_is); (case k30 => k_is); (case a31 => k_is); (case l31 => k_is); (case c31 => k_is); (case k31 => k_is); (case z1 => k_is); (case z2 => k_is); (case z3 => k_is); (case z4 => k_is); (case z5 => k_is); (case z6 => k_is); (case z7 => k_is); (case z8 => k_is); (case z9 => k_is); (case z10 => k_is); (case z11 => k_is); (case z12 => k_is)
end
